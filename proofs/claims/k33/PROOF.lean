import PyProof.Rows.All
import Wide.All
import OpenK.AllK
import Wide.FinOn
import KE.GoesMore
import KE.KDictZip
import HandS.ForMost
import HandS.ForExc
import HandS.Walk
import HandS.TupAny
import HandS.TupMul
import HandS.Lambda
import HandS.TupLe
import HandS.Deep
import HandS.Wide
import HandS.Codes
import PyProof.StrBlock2
import HandS.IsInst
import HandS.Conv
import PyProof.ListStr
import PyProof.ReprRoads
import KE.DataFind
import HandS.Style
import HandS.ExcOwn
import HandS.More
import HandS.WrittenGet
import PyProof.Rows.StrRev
import KE.KRevSl
import HandS.RaiseMore
import HandS.Zip
import KE.GoesEnumKw
import HandS.TryMany
import HandS.EndTab
import HandS.HeadHook4
import HandS.Head2
import HandS.Star
import HandS.Ends
import HandS.Head0
import HandS.Head1
import HandS.HeadHook1
import HandS.HeadHook2
import HandS.HeadHook3
import HandS.Text
import PyProof.StrLawsRepr
import PyProof.Rows.StrDigits
import KE.OsArith
import KE.BitLaws
import PySem.Challenge.RW_halfbits_k33_tables_and_tellings
set_option Elab.async false
set_option linter.all false
set_option maxRecDepth 100000
section
set_option autoImplicit false
set_option maxRecDepth 100000
/-! Z0: zip over any number of iterators with equally many items; the tuple that it gave out last may live on or not. -/
namespace Vl
open PySem

theorem typeCall_zipN (us : List Value) : checkTypeCall "zip" ⟨us, []⟩ = pure () := by kernel_rfl
theorem newCall_zipN (a : Value) (us : List Value) : checkBuiltinCall "zip.__new__" ⟨.type "zip" :: a :: us, []⟩ = pure () := by kernel_rfl
theorem initArgs_zipN (obj : Value) (us : List Value) : argsOk "object.__init__" ⟨obj :: us, []⟩ := by unfold argsOk; kernel_rfl

abbrev ZipO (h : Heap) (z TI TO : Addr) (own : Value) (f : Bool) : Prop :=
  h.get? z = some { cls := .type "zip", dict := none, data := .fields #[own, .bool f, .bool false, .ref TI, .ref TO], slots := #[] }
abbrev TupN (h : Heap) (T : Addr) (vs : List Value) : Prop := h.get? T = some { cls := .type "tuple", data := .seq vs.toArray }
structure ItZ where
  it : Addr
  fp : List Addr
  P : Nat → Value → Prop
  St : Nat → Heap → Prop
section
variable {prog : Program} {w : World} {A : Around} {E : Value → Shared → Prop} { s : Shared }
theorem alive_any {a : Addr} {Q : Option Obj → Shared → Prop} (h : Q (s.heap.get? a) s) : wpAny (model prog w) A (loadIfAlive a) Q E s := fun _ _ _ => h
theorem tupFree_zip {z TI TO : Addr} {own : Value} {f : Bool} {Q : Bool → Shared → Prop} (hz : ZipO s.heap z TI TO own f) (ho : own = .none ∨ ∃ a : Nat, own = rawInt a)
    (h1 : Q true s) (h2 : ∀ h', ZipO h' z TI TO own true → Heap.SameBut z s.heap h' → Q false { s with heap := h' }) : wpAny (model prog w) A (Builtin.SmallTypes.ownedTupleIsFree (.ref z)) Q E s := by
  (unfold Builtin.SmallTypes.ownedTupleIsFree)
  rcases ho with rfl | ⟨T, rfl⟩
  · exact wpAny_bind (wpAny_field hz rfl (x := .none) rfl (wpAny_pure h1))
  · refine wpAny_bind (wpAny_field hz rfl (x := rawInt T) rfl ?_)
    show (wpAny _ _ (loadIfAlive ((T : Int).toNat) >>= _) _ _ _)
    rw [Int.toNat_natCast]
    refine wpAny_bind (alive_any ?_)
    cases s.heap.get? T with
    | none =>
      simp only [if_true, Option.isNone_none]
      exact wpAny_pure h1
    | some o =>
      simp only [Bool.false_eq_true, if_false, Option.isNone_some]
      refine (wpAny_bind (wpAny_field hz rfl (x := .bool f) rfl ?_))
      cases f with
      | true =>
        rw [(if_neg (show ¬ ((Value.bool true != Value.bool true) = true) from Bool.false_ne_true))]
        exact wpAny_pure (h2 s.heap hz (Heap.SameBut.refl _ _))
      | false =>
        rw [(if_pos (show (Value.bool false != Value.bool true) = true from rfl))]
        exact wpAny_bind (wpAny_setField_rec hz (by simp) fun h₁ hz₁ hs₁ => wpAny_pure (h2 h₁ hz₁ hs₁))
theorem letGo_zip {tg : Expr} {z TI TO T : Addr} {own : Value} {f : Bool} {Q : Unit → Shared → Prop} (hz : ZipO s.heap z TI TO own f) (ho : own = .none ∨ ∃ a : Nat, own = rawInt a)
    (hQ : ∀ h' own', (own' = .none ∨ ∃ a : Nat, own' = rawInt a) → ZipO h' z TI TO own' f → Heap.SameBut z s.heap h' → Q () { s with heap := h' }) :
    wpAny (model prog w) A (letOwnedTupleGo tg (.ref z) (.ref T)) Q E s := by
  have same : Q () s := hQ s.heap own ho hz (Heap.SameBut.refl _ _)
  unfold letOwnedTupleGo
  cases tg <;> first
    | exact wpAny_pure same
    | (refine wpAny_bind (wpAny_load hz ?_)
       dsimp only
       split
       · refine (wpAny_bind (wpAny_rule ?_))
         show (wpAny _ _ (setField (.ref z) 0 .none) Q E s)
         exact wpAny_setField_rec hz (by simp) fun h' hz' sbh => hQ h' .none (.inl rfl) hz' sbh
       · exact wpAny_pure same)
theorem pyIter_zipO {z TI TO : Addr} {own : Value} {f : Bool} {Q : Value → Shared → Prop} (hz : ZipO s.heap z TI TO own f) (h : Q (.ref z) s) : wpAny (model prog w) A (pyIter (.ref z)) Q E s := by
  have hT : (s.TypeIs (.ref z) "zip") := ⟨_, hz, rfl⟩
  refine (wpAny_pyIter_slot hT F.slot_zip_iter (wpAny_call_entry F.slot_zip_iter hT F.entry_zip_iter ?_ (F.args_zip_iter_1 _)))
  show (wpAny _ _ (ret (.ref z)) _ _ s)
  exact (wpAny_pure ⟨_, rfl, "zip", _, hT, F.slot_zip_next.lookup, h⟩)

/-- the cells lie apart -/
structure ZSep (z TI TO : Addr) (L : List ItZ) : Prop where
  TIz : TI ≠ z
  TOz : TO ≠ z
  TITO : TI ≠ TO
  one : ∀ d ∈ L, d.it ∈ d.fp ∧ z ∉ d.fp ∧ TO ∉ d.fp ∧ TI ≠ d.it
  two : L.Pairwise fun a b => a.it ∉ b.fp ∧ b.it ∉ a.fp
theorem ZSep.zi {z TI TO : Addr} {L : List ItZ} (S : ZSep z TI TO L) {d : ItZ} (h : d ∈ L) : z ≠ d.it := fun e => (S.one d h).2.1 (e ▸ (S.one d h).1)
theorem ZSep.Ti {z TI TO : Addr} {L : List ItZ} (S : ZSep z TI TO L) {d : ItZ} (h : d ∈ L) : TO ≠ d.it := fun e => (S.one d h).2.2.1 (e ▸ (S.one d h).1)
inductive All2 {α β : Type} (R : α → β → Prop) : List α → List β → Prop
  | nil : All2 R [] []
  | cons {a b as bs} : R a b → All2 R as bs → All2 R (a :: as) (b :: bs)
theorem All2.snoc {α β : Type} {R : α → β → Prop} {as : List α} {bs : List β} {a : α} {b : β} (h : All2 R as bs) (r : R a b) : All2 R (as ++ [a]) (bs ++ [b]) := by
  induction h with
  | nil => exact .cons r .nil
  | cons h _ ih => exact .cons h ih
theorem All2.len {α β : Type} {R : α → β → Prop} {as : List α} {bs : List β} (h : All2 R as bs) : as.length = bs.length := by
  induction h with
  | nil => rfl
  | cons h _ ih => rw [List.length_cons, List.length_cons, ih]
/-- where the drawing stands -/
structure ZAt (z TO : Addr) (L : List ItZ) (i : Nat) (hp : Heap) (L1 L2 : List ItZ) (xs : List Value) (h : Heap) : Prop where
  eq : L = L1 ++ L2
  val : All2 (fun d x => d.P i x) L1 xs
  old : ∀ d ∈ L1, d.St (i + 1) h
  new : ∀ d ∈ L2, d.St i h
  sz : h.objs.size = hp.objs.size
  kp : ∀ c o, c ≠ z → c ≠ TO → (∀ d ∈ L, c ≠ d.it) → hp.get? c = some o → h.get? c = some o
theorem zset_at (xs ys : List Value) (y x : Value) : (xs ++ y :: ys).toArray.setIfInBounds xs.length x = ((xs ++ [x]) ++ ys).toArray := by
  simp
/-- one draw -/
theorem ZAt.draw {z TI TO : Addr} {L : List ItZ} {i n : Nat} {hp h : Heap} {L1 L2 : List ItZ} {d : ItZ} {xs : List Value} {Q : Value → Shared → Prop} {g : Array GenState} {dr : Drawn} {tk : Nat} {os : OsState}
    (S : ZSep z TI TO L) (D : ∀ d ∈ L, Draws prog w A d.it d.fp n d.P d.St) (hi : i < n) (Z : ZAt z TO L i hp L1 (d :: L2) xs h)
    (hQ : ∀ x h' tk, Heap.SameBut d.it h h' → ZAt z TO L i hp (L1 ++ [d]) L2 (xs ++ [x]) h' → Q x ⟨h', g, dr, tk, os⟩) : wpAny (model prog w) A (Builtin.SmallTypes.nextOf (.ref d.it)) Q E ⟨h, g, dr, tk, os⟩ := by
  have hd : d ∈ L := by rw [Z.eq]; simp
  refine (D d hd).item i _ _ _ hi (Z.new d (by simp)) fun x h' tk' hx sn hs => hQ x h' tk' hs ?_
  have pw := S.two
  rw [Z.eq] at pw
  obtain ⟨_, p2, p3⟩ := List.pairwise_append.mp pw
  obtain ⟨p4, _⟩ := List.pairwise_cons.mp p2
  refine ⟨by rw [Z.eq]; simp, Z.val.snoc hx, fun e he => ?_, fun e he => ?_, hs.1.trans Z.sz, fun c o c1 c2 c3 q => hs.extBut _ _ (c3 d hd) (Z.kp c o c1 c2 c3 q)⟩
  · rcases (List.mem_append.mp he) with he | he
    · exact (D e (by rw [Z.eq]; simp [he])).over (Z.old e he) hs (p3 e he d (by simp)).2
    · rcases List.mem_singleton.mp he with rfl
      exact sn
  · exact (D e (by rw [Z.eq]; simp [he])).over (Z.new e (by simp [he])) hs (p4 e he).1
end
end Vl
end
section
set_option autoImplicit false
set_option maxRecDepth 100000
/-! Z1: next of such a zip. -/
namespace Vl
open PySem
section
variable {prog : Program} {w : World} {A : Around} {E : Value → Shared → Prop} {s : Shared} {z TI TO : Addr} {L : List ItZ} {i n : Nat}

theorem newTupleL {vs : List Value} {Q : Value → Shared → Prop} (hz : vs.length ≤ sizeLine) (h : Q (.ref s.heap.objs.size) { s with heap := s.heap.push { cls := .type "tuple", data := .seq vs.toArray } }) :
    wpAny (model prog w) A (newTuple vs) Q E s := wpAny_newTuple h hz
/-- an item: the tuple is new; what the zip keeps is told by its cells -/
theorem zipN_next_item {own : Value} {f : Bool} {olds : List Value} {Q : Value → Shared → Prop} (S : ZSep z TI TO L) (D : ∀ d ∈ L, Draws prog w A d.it d.fp n d.P d.St) (hL : L ≠ []) (hlen : olds.length = L.length) (hsz : L.length ≤ sizeLine)
    (hz : ZipO s.heap z TI TO own f) (ho : own = .none ∨ ∃ a : Nat, own = rawInt a) (hTI : TupN s.heap TI (L.map fun d => .ref d.it)) (hTO : TupN s.heap TO olds) (st : ∀ d ∈ L, d.St i s.heap) (hlt : i < n)
    (hQ : ∀ xs h' tk own' f', All2 (fun (d : ItZ) x => d.P i x) L xs → (own' = .none ∨ ∃ a : Nat, own' = rawInt a) → ZipO h' z TI TO own' f' → (∃ olds', olds'.length = L.length ∧ TupN h' TO olds') → (∀ d ∈ L, d.St (i + 1) h') → TupN h' s.heap.objs.size xs → h'.objs.size = s.heap.objs.size + 1 →
      (∀ c o, c ≠ z → c ≠ TO → (∀ d ∈ L, c ≠ d.it) → s.heap.get? c = some o → h'.get? c = some o) → Q (.ref s.heap.objs.size) { s with heap := h', toks := tk }) :
    wpAny (model prog w) A (Builtin.«zip.__next__» ⟨[.ref z], []⟩) (fun fi s' => ∃ v, fi = .done (.ret v) ∧ Q v s') E s := by
  obtain ⟨hp, g, d, tk0, os⟩ := (s)
  show (wpAny _ _ (field (.ref z) 2 >>= _) _ _ _)
  refine (wpAny_bind (wpAny_field hz rfl (x := .bool false) rfl ?_))
  show (wpAny _ _ (field (.ref z) 3 >>= _) _ _ _)
  refine (wpAny_bind (wpAny_field hz rfl (x := .ref TI) rfl ?_))
  refine (wpAny_bind (wpAny_seqItems hTI rfl ?_))
  obtain ⟨d0, L0, rfl⟩ : ∃ d0 L0, L = d0 :: L0 := by
    cases L with
    | nil => exact absurd rfl hL
    | cons a b => exact ⟨a, b, rfl⟩
  show (wpAny _ _ (Builtin.SmallTypes.ownedTupleIsFree (.ref z) >>= _) _ _ _)
  refine wpAny_bind (tupFree_zip hz ho ?_ fun h1 hz1 hs1 => ?_)
  · -- the tuple of the zip is used again
    simp only [if_true]
    refine (wpAny_bind (wpAny_rule ?_))
    refine (wpAny_bind (wpAny_field hz rfl (x := .ref TO) rfl ?_))
    refine wpAny_bind (wpAny_setField_rec hz (by simp) fun g0 hz0 sb0 => ?_)
    replace hz0 : ZipO g0 z TI TO .ellipsis f := hz0
    replace sb0 : Heap.SameBut z hp g0 := sb0
    refine wpAny_bind ?_
    refine wpAny_forIn_list _ (fun rest b s' => ∃ L1 L2 xs os2 h' tk', ZAt z TO (d0 :: L0) i hp L1 L2 xs h' ∧ os2.length = L2.length ∧ TupN h' TO (xs ++ os2) ∧ ZipO h' z TI TO .ellipsis f ∧ rest = (L2.map fun d => Value.ref d.it).zipIdx L1.length ∧ b.1 = none ∧ s' = ⟨h', g, d, tk', os⟩) _ ?_ ?_ _ _
      ⟨[], d0 :: L0, [], olds, g0, tk0, ⟨rfl, .nil, (fun _ h => nomatch h), (fun e he => (D e he).over (st e he) sb0 (S.one e he).2.1), sb0.1, fun c o c1 _ _ q => sb0.extBut _ _ c1 q⟩, hlen, sb0.extBut _ _ S.TOz hTO, hz0, by simp, rfl, rfl⟩
    · rintro x rest b s1 ⟨L1, L2, xs, os2, h', tk', Z, ol, tO, zO, er, eb, rfl⟩
      obtain ⟨b1, b2⟩ := b
      cases eb
      cases L2 with
      | nil => cases er
      | cons d1 L2 =>
        rw [List.map_cons, List.zipIdx_cons] at er
        cases er
        have hd1 : d1 ∈ d0 :: L0 := by rw [Z.eq]; simp
        obtain ⟨y, os3, rfl⟩ : ∃ y os3, os2 = y :: os3 := by
          cases os2 with
          | nil => cases ol
          | cons a b => exact ⟨a, b, rfl⟩
        refine wpAny_bind (wpAny_onRaise ?_)
        show wpAny _ _ (Builtin.SmallTypes.nextOf (.ref d1.it) >>= _) _ _ ⟨h', g, d, tk', os⟩
        refine wpAny_bind (ZAt.draw S D hlt Z fun x h2 tk2 hs2 Z2 => wpAny_pure ?_)
        have tO2 : TupN h2 TO (xs ++ y :: os3) := hs2.extBut _ _ (S.Ti hd1) tO
        have zO2 : ZipO h2 z TI TO .ellipsis f := hs2.extBut _ _ (S.zi hd1) zO
        have lx : xs.length = L1.length := Z.val.len.symm
        have lt : (xs ++ y :: os3).length = (d0 :: L0).length := by
          rw [Z.eq, List.length_append, List.length_append, lx, List.length_cons, List.length_cons]
          simp only [List.length_cons] at ol
          omega
        refine wpAny_bind (wpAny_seqItems (s := ⟨h2, g, d, tk2, os⟩) tO2 rfl ?_)
        refine wpAny_bind (wpAny_updateSeq (s := ⟨h2, g, d, tk2, os⟩) tO2 rfl ?_ (by rw [List.size_toArray, lt]; exact hsz) (by rw [Array.size_setIfInBounds, List.size_toArray, lt]; exact Nat.le_succ_of_le hsz))
        refine (wpAny_bind (wpAny_letGo (wpAny_pure ?_)))
        have hs3 : Heap.SameBut TO h2 (h2.update TO (Obj.mapSeq (·.setIfInBounds L1.length x))) := Heap.SameBut.update ..
        have tO3 : TupN (h2.update TO (Obj.mapSeq (·.setIfInBounds L1.length x))) TO ((xs ++ [x]) ++ os3) := by
          show Heap.get? _ _ = _
          rw [Heap.get?_update_self _ tO2 rfl]
          have e := zset_at xs os3 y x
          rw [lx] at e
          have e2 : ((xs ++ [x] ++ os3).toArray.size == (xs ++ y :: os3).toArray.size) = true := by simp
          simp only [Obj.mapSeq, e]
          rw [if_pos e2]
        refine ⟨L1 ++ [d1], L2, xs ++ [x], os3, _, tk2, ⟨Z2.eq, Z2.val, fun e he => (D e (by rw [Z2.eq]; exact List.mem_append_left _ he)).over (Z2.old e he) hs3 (S.one e (by rw [Z2.eq]; exact List.mem_append_left _ he)).2.2.1, fun e he => (D e (by rw [Z2.eq]; exact List.mem_append_right _ he)).over (Z2.new e he) hs3 (S.one e (by rw [Z2.eq]; exact List.mem_append_right _ he)).2.2.1, hs3.1.trans Z2.sz, fun c o c1 c2 c3 q => hs3.extBut _ _ c2 (Z2.kp c o c1 c2 c3 q)⟩, by simpa using ol, tO3, hs3.extBut _ _ S.TOz.symm zO2, by simp, rfl, rfl⟩
    · rintro b s1 ⟨L1, L2, xs, os2, h', tk', Z, ol, tO, zO, er, eb, rfl⟩
      obtain ⟨b1, b2⟩ := b
      cases eb
      have e2 : L2 = [] := by
        cases L2 with
        | nil => rfl
        | cons a l => rw [List.map_cons, List.zipIdx_cons] at er; cases er
      subst e2
      have e1 : d0 :: L0 = L1 := by rw [Z.eq, List.append_nil]
      have e3 : os2 = [] := List.length_eq_zero_iff.mp ol
      subst e3
      rw [List.append_nil] at tO
      have lx : xs.length = (d0 :: L0).length := by rw [e1]; exact Z.val.len.symm
      have hsz1 := Z.sz
      refine wpAny_bind (wpAny_seqItems (s := ⟨h', g, d, tk', os⟩) tO rfl ?_)
      refine wpAny_bind (newTupleL (by rw [show xs.toArray.toList = xs by simp, lx]; exact hsz) ?_)
      rw [show xs.toArray.toList = xs by simp]
      have hzlt : z < h'.objs.size := Heap.lt_size zO
      show wpAny _ _ (Builtin.SmallTypes.ownedTupleHandOut (.ref z) (.ref h'.objs.size) >>= _) _ _ ⟨h'.push { cls := .type "tuple", data := .seq xs.toArray }, g, d, tk', os⟩
      refine wpAny_bind ?_
      (unfold Builtin.SmallTypes.ownedTupleHandOut)
      have hz6 : ZipO (h'.push { cls := .type "tuple", data := .seq xs.toArray }) z TI TO .ellipsis f := Heap.get?_push_of_some _ zO
      refine wpAny_bind (wpAny_setField_rec hz6 (by simp) fun h7 hz7 hs7 => ?_)
      replace hz7 : ZipO h7 z TI TO (rawInt h'.objs.size) f := hz7
      refine wpAny_setField_rec hz7 (by simp) fun h8 hz8 hs8 => ?_
      replace hz8 : ZipO h8 z TI TO (rawInt h'.objs.size) false := hz8
      replace hs7 : Heap.SameBut z (h'.push { cls := .type "tuple", data := .seq xs.toArray }) h7 := hs7
      replace hs8 : Heap.SameBut z h7 h8 := hs8
      have up : ∀ c o, c ≠ z → h'.get? c = some o → h8.get? c = some o := fun c o c1 e => hs8.extBut _ _ c1 (hs7.extBut _ _ c1 (Heap.get?_push_of_some _ e))
      have hT8 : TupN h8 h'.objs.size xs := hs8.extBut _ _ (Nat.ne_of_gt hzlt) (hs7.extBut _ _ (Nat.ne_of_gt hzlt) (Heap.get?_push_size _ rfl))
      have h8z : h8.objs.size = h'.objs.size + 1 := by rw [hs8.1, hs7.1, Heap.size_push]
      rw [hsz1] at hz8 hT8 h8z
      refine (wpAny_pure ⟨_, rfl, ?_⟩)
      show Q (.ref h'.objs.size) ⟨h8, g, d, tk', os⟩
      rw [hsz1]
      rw [← e1] at Z
      refine hQ xs h8 tk' _ false Z.val (.inr ⟨_, rfl⟩) hz8 ⟨xs, lx, up _ _ S.TOz tO⟩ (fun e he => (D e he).frame _ _ _ (Z.old e he) fun b hb o q => up b o (fun q => (S.one e he).2.1 (q ▸ hb)) q) hT8 h8z fun c o c1 c2 c3 q => up c o c1 (Z.kp c o c1 c2 c3 q)
  · -- the tuple that it gave out lives on: another one
    simp only [if_false, Bool.false_eq_true]
    refine wpAny_bind ?_
    rw [← Array.forIn_toList]
    refine wpAny_forIn_list _ (fun rest b s' => ∃ L1 L2 xs h' tk', ZAt z TO (d0 :: L0) i hp L1 L2 xs h' ∧ (∀ c o, c ≠ z → (∀ d ∈ d0 :: L0, c ≠ d.it) → hp.get? c = some o → h'.get? c = some o) ∧ ZipO h' z TI TO own true ∧ rest = (L2.map fun d => Value.ref d.it) ∧ b.1 = none ∧ b.2 = xs.toArray ∧ s' = ⟨h', g, d, tk', os⟩) _ ?_ ?_ _ _
      ⟨[], d0 :: L0, [], h1, tk0, ⟨rfl, .nil, (fun _ h => nomatch h), (fun e he => (D e he).over (st e he) hs1 (S.one e he).2.1), hs1.1, fun c o c1 _ _ q => hs1.extBut _ _ c1 q⟩, fun c o c1 _ q => hs1.extBut _ _ c1 q, hz1, by simp, rfl, rfl, rfl⟩
    · rintro x rest b s1 ⟨L1, L2, xs, h', tk', Z, kp, zO, er, eb, eb2, rfl⟩
      obtain ⟨b1, b2⟩ := b
      cases eb
      cases eb2
      cases L2 with
      | nil => cases er
      | cons d1 L2 =>
        rw [List.map_cons] at er
        cases er
        have hd1 : d1 ∈ d0 :: L0 := by rw [Z.eq]; simp
        refine (wpAny_bind (wpAny_holding ?_))
        show wpAny _ _ (Builtin.SmallTypes.nextOf (.ref d1.it) >>= _) _ _ ⟨h', g, d, tk', os⟩
        refine wpAny_bind (ZAt.draw S D hlt Z fun x h2 tk2 hs2 Z2 => wpAny_pure (wpAny_pure ?_))
        refine ⟨L1 ++ [d1], L2, xs ++ [x], h2, tk2, Z2, fun c o c1 c3 q => hs2.extBut _ _ (c3 d1 hd1) (kp c o c1 c3 q), hs2.extBut _ _ (S.zi hd1) zO, rfl, rfl, by simp, rfl⟩
    · rintro b s1 ⟨L1, L2, xs, h', tk', Z, kp, zO, er, eb, eb2, rfl⟩
      obtain ⟨b1, b2⟩ := b
      cases eb
      cases eb2
      have e2 : L2 = [] := by
        cases L2 with
        | nil => rfl
        | cons a l => rw [List.map_cons] at er; cases er
      subst e2
      have e1 : d0 :: L0 = L1 := by rw [Z.eq, List.append_nil]
      have lx : xs.length = (d0 :: L0).length := by rw [e1]; exact Z.val.len.symm
      have hsz1 := Z.sz
      refine wpAny_bind (newTupleL (by rw [show xs.toArray.toList = xs by simp, lx]; exact hsz) ?_)
      rw [show xs.toArray.toList = xs by simp]
      refine (wpAny_pure ⟨_, rfl, ?_⟩)
      show Q (.ref h'.objs.size) ⟨h'.push { cls := .type "tuple", data := .seq xs.toArray }, g, d, tk', os⟩
      have hT8 : TupN (h'.push { cls := .type "tuple", data := .seq xs.toArray }) h'.objs.size xs := Heap.get?_push_size _ rfl
      have h8z : (h'.push { cls := .type "tuple", data := .seq xs.toArray }).objs.size = h'.objs.size + 1 := Heap.size_push ..
      rw [hsz1] at hT8 h8z ⊢
      rw [← e1] at Z
      refine hQ xs _ tk' own true Z.val ho (Heap.get?_push_of_some _ zO) ⟨olds, hlen, Heap.get?_push_of_some _ (kp _ _ S.TOz (fun e he => S.Ti he) hTO)⟩ (fun e he => (D e he).frame _ _ _ (Z.old e he) fun b hb o q => Heap.get?_push_of_some _ q) hT8 h8z fun c o c1 c2 c3 q => Heap.get?_push_of_some _ (kp c o c1 c3 q)

/-- the end: the first one has no more -/
theorem zipN_next_end {own : Value} {f : Bool} {olds : List Value} {Q : Fin → Shared → Prop} (S : ZSep z TI TO L) (D : ∀ d ∈ L, Draws prog w A d.it d.fp n d.P d.St) (hL : L ≠ [])
    (hz : ZipO s.heap z TI TO own f) (ho : own = .none ∨ ∃ a : Nat, own = rawInt a) (hTI : TupN s.heap TI (L.map fun d => .ref d.it)) (hTO : TupN s.heap TO olds) (st : ∀ d ∈ L, d.St n s.heap)
    (hE : ∀ h' e, (∀ c o, c ≠ z → c ≠ TO → (∀ d ∈ L, c ≠ d.it) → s.heap.get? c = some o → h'.get? c = some o) → (∃ o, h'.get? e = some o ∧ o.cls = .type "StopIteration") → E (.ref e) { s with heap := h' }) :
    wpAny (model prog w) A ((Builtin.«zip.__next__» ⟨[.ref z], []⟩)) Q E s := by
  obtain ⟨hp, g, d, tk0, os⟩ := (s)
  show (wpAny _ _ (field (.ref z) 2 >>= _) _ _ _)
  refine (wpAny_bind (wpAny_field hz rfl (x := .bool false) rfl ?_))
  show (wpAny _ _ (field (.ref z) 3 >>= _) _ _ _)
  refine (wpAny_bind (wpAny_field hz rfl (x := .ref TI) rfl ?_))
  refine (wpAny_bind (wpAny_seqItems hTI rfl ?_))
  obtain ⟨d0, L0, rfl⟩ : ∃ d0 L0, L = d0 :: L0 := by
    cases L with
    | nil => exact absurd rfl hL
    | cons a b => exact ⟨a, b, rfl⟩
  have h0 : d0 ∈ d0 :: L0 := by simp
  show (wpAny _ _ (Builtin.SmallTypes.ownedTupleIsFree (.ref z) >>= _) _ _ _)
  refine wpAny_bind (tupFree_zip hz ho ?_ fun h1 hz1 hs1 => ?_)
  · simp only [if_true]
    refine (wpAny_bind (wpAny_rule ?_))
    refine (wpAny_bind (wpAny_field hz rfl (x := .ref TO) rfl ?_))
    refine wpAny_bind (wpAny_setField_rec hz (by simp) fun g0 hz0 sb0 => ?_)
    replace hz0 : ZipO g0 z TI TO .ellipsis f := hz0
    replace sb0 : Heap.SameBut z hp g0 := sb0
    refine wpAny_bind ?_
    simp only [List.map_cons, List.zipIdx_cons, List.forIn_cons]
    refine (wpAny_bind (wpAny_bind (wpAny_onRaise ?_)))
    show wpAny _ _ (Builtin.SmallTypes.nextOf (.ref d0.it) >>= _) _ _ ⟨g0, g, d, tk0, os⟩
    refine wpAny_bind ((D d0 h0).done ⟨g0, g, d, tk0, os⟩ _ _ ((D d0 h0).over (st d0 h0) sb0 (S.one d0 h0).2.1) fun q e hq he => ?_)
    replace hq : Heap.ExtBut d0.it g0 q := hq
    obtain ⟨oe, oeq, hce⟩ := he
    replace oeq : q.get? e = some oe := oeq
    have hzq : ZipO q z TI TO .ellipsis f := hq _ _ (S.zi h0) hz0
    have hez : e ≠ z := fun x => by subst x; rw [hzq] at oeq; cases oeq; simp at hce
    refine wpAny_setField_rec (s := ⟨q, g, d, tk0, os⟩) hzq (by simp) fun q' _ sq' => ?_
    replace sq' : Heap.SameBut z q q' := sq'
    exact hE q' e (fun c o cz cT c3 x => sq'.extBut _ _ cz (hq _ _ (c3 d0 h0) (sb0.extBut _ _ cz x))) ⟨oe, sq'.extBut _ _ hez oeq, hce⟩
  · simp only [if_false, Bool.false_eq_true]
    refine wpAny_bind ?_
    rw [← Array.forIn_toList]
    simp only [List.map_cons, List.forIn_cons]
    refine (wpAny_bind (wpAny_bind (wpAny_holding ?_)))
    show wpAny _ _ (Builtin.SmallTypes.nextOf (.ref d0.it) >>= _) _ _ ⟨h1, g, d, tk0, os⟩
    refine wpAny_bind ((D d0 h0).done ⟨h1, g, d, tk0, os⟩ _ _ ((D d0 h0).over (st d0 h0) hs1 (S.one d0 h0).2.1) fun q e hq he => ?_)
    replace hq : Heap.ExtBut d0.it h1 q := hq
    exact hE q e (fun c o cz cT c3 x => hq _ _ (c3 d0 h0) (hs1.extBut _ _ cz x)) he
end
end Vl
end
section
set_option autoImplicit false
set_option maxRecDepth 100000
/-! Z2: such a zip begins. -/
namespace Vl
open PySem
/-- objects one behind the other -/
def pushAll (h : Heap) : List Obj → Heap
  | [] => h
  | o :: os => pushAll (h.push o) os
def BegAll (h : Heap) : List Value → List Obj → Prop
  | [], os => os = []
  | v :: vs, os => ∃ o r Hh, os = o :: r ∧ Begins v o Hh ∧ Hh h ∧ BegAll h vs r
theorem BegAll.len {h : Heap} : ∀ {vs : List Value} {os : List Obj}, BegAll h vs os → os.length = vs.length
  | [], os, e => by rw [show os = [] from e]; rfl
  | _ :: vs, os, ⟨o, r, Hh, e, _, _, q⟩ => by rw [e, List.length_cons, List.length_cons, BegAll.len q]
theorem BegAll.up {h h' : Heap} (k : ∀ b o, h.get? b = some o → h'.get? b = some o) : ∀ {vs : List Value} {os : List Obj}, BegAll h vs os → BegAll h' vs os
  | [], os, e => e
  | _ :: vs, os, ⟨o, r, Hh, e, B, b, q⟩ => ⟨o, r, Hh, e, B, B.keeps _ _ b k, BegAll.up k q⟩
theorem pushAll_size : ∀ (os : List Obj) (h : Heap), (pushAll h os).objs.size = h.objs.size + os.length
  | [], h => rfl
  | o :: os, h => by rw [pushAll, pushAll_size os, Heap.size_push, List.length_cons]; omega
theorem pushAll_keep : ∀ (os : List Obj) (h : Heap) (b : Addr) (o : Obj), h.get? b = some o → (pushAll h os).get? b = some o
  | [], h, b, o, e => e
  | x :: os, h, b, o, e => pushAll_keep os _ b o (Heap.get?_push_of_some _ e)
theorem pushAll_get : ∀ (os : List Obj) (h : Heap) (j : Nat) (o : Obj), (∀ o ∈ os, o.isFreed = false) → os[j]? = some o → (pushAll h os).get? (h.objs.size + j) = some o
  | [], h, j, o, _, e => by simp at e
  | x :: os, h, 0, o, f, e => by
    simp at e
    subst e
    exact pushAll_keep os _ _ _ (Heap.get?_push_size _ (f x (by simp)))
  | x :: os, h, j + 1, o, f, e => by
    have q := pushAll_get os (h.push x) j o (fun o ho => f o (by simp [ho])) (by simpa using e)
    rw [Heap.size_push] at q
    rw [pushAll, show h.objs.size + (j + 1) = h.objs.size + 1 + j by omega]
    exact q
theorem pushAll_snoc : ∀ (os : List Obj) (h : Heap) (o : Obj), pushAll h (os ++ [o]) = (pushAll h os).push o
  | [], h, o => rfl
  | x :: os, h, o => by rw [List.cons_append, pushAll, pushAll, pushAll_snoc os]
theorem BegAll.free {h : Heap} : ∀ {vs : List Value} {os : List Obj}, BegAll h vs os → ∀ o ∈ os, o.isFreed = false
  | [], os, e, o, ho => by rw [show os = [] from e] at ho; cases ho
  | _ :: vs, os, ⟨x, r, Hh, e, B, b, q⟩, o, ho => by
    subst e
    rcases List.mem_cons.mp ho with rfl | ho
    · exact B.free
    · exact BegAll.free q o ho
section
variable {prog : Program} {w : World} {A : Around} {E : Value → Shared → Prop} { s : Shared }
def refsFrom (n : Nat) (k : Nat) : List Value := (List.range' n k).map Value.ref
theorem refs_snoc (n k : Nat) : refsFrom n (k + 1) = refsFrom n k ++ [.ref (n + k)] := by
  unfold refsFrom
  rw [List.range'_concat, List.map_append]
  simp
theorem iterAll_any {vs : List Value} {os : List Obj} {Q : List Value → Shared → Prop} (B : BegAll s.heap vs os)
    (h : Q (refsFrom s.heap.objs.size os.length) { s with heap := pushAll s.heap os }) : wpAny (model prog w) A (Builtin.SmallTypes.iterAll vs) Q E s := by
  obtain ⟨hp, g, d, tk, oss⟩ := s
  (unfold Builtin.SmallTypes.iterAll)
  refine wpAny_bind ?_
  refine wpAny_forIn_list _ (fun rest b s' => ∃ o1 o2, os = o1 ++ o2 ∧ BegAll hp rest o2 ∧ b = (refsFrom hp.objs.size o1.length).toArray ∧ s' = ⟨pushAll hp o1, g, d, tk, oss⟩) _ ?_ ?_ _ _ ⟨[], os, rfl, B, rfl, rfl⟩
  · rintro x rest b s1 ⟨o1, o2, eo, ⟨o, r, Hh, e2, Bx, bx, q⟩, rfl, rfl⟩
    subst e2
    refine (wpAny_bind (wpAny_holding ?_))
    refine Bx.iter prog w _ _ ⟨pushAll hp o1, g, d, tk, oss⟩ _ (Bx.keeps _ _ bx fun b o' e => pushAll_keep o1 _ b o' e) (wpAny_pure ?_)
    refine ⟨o1 ++ [o], r, by rw [eo]; simp, q, ?_, by rw [pushAll_snoc]⟩
    rw [List.length_append, List.length_singleton, refs_snoc, pushAll_size]
    simp
  · rintro b s1 ⟨o1, o2, eo, q, rfl, rfl⟩
    have e2 : o2 = [] := q
    subst e2
    have e1 : os = o1 := by rw [eo, List.append_nil]
    subst e1
    refine wpAny_pure ?_
    simpa using h

abbrev zN1 (h : Heap) (os : List Obj) : Heap := (pushAll h os).push { cls := .type "tuple", data := .seq (refsFrom h.objs.size os.length).toArray }
abbrev zN2 (h : Heap) (os : List Obj) : Heap := (zN1 h os).push { cls := .type "tuple", data := .seq ((refsFrom h.objs.size os.length).map fun _ => Value.none).toArray }
abbrev zN3 (h : Heap) (os : List Obj) : Heap := (zN2 h os).push { cls := .type "zip", data := .fields #[.none, .bool false, .bool false, .ref (pushAll h os).objs.size, .ref (zN1 h os).objs.size] }
theorem refs_len (n k : Nat) : (refsFrom n k).length = k := by simp [refsFrom]
theorem newTupleT {vs : List Value} {Q : Value → Shared → Prop} (hz : vs.length ≤ sizeLine) (h : Q (.ref s.heap.objs.size) { s with heap := s.heap.push { cls := .type "tuple", data := .seq vs.toArray } }) :
    wpAny (model prog w) A (newTuple vs) Q E s := wpAny_newTuple h hz
theorem meets_zip_newN {v : Value} {vs : List Value} {os : List Obj} (hz : (v :: vs).length ≤ sizeLine) :
    Meets (Builtin.«zip.__new__» ⟨.type "zip" :: v :: vs, []⟩) (fun _ R s => BegAll s.heap (v :: vs) os ∧
      R (.ok (.ret (.ref (zN2 s.heap os).objs.size))) { s with heap := zN3 s.heap os }) :=
  .of_wp fun prog w A R s => fun h => by
    obtain ⟨hp, g, d, tk, oss⟩ := s; obtain ⟨h1, h⟩ := h
    have hsub := sub_zip
    have hl := h1.len
    have q1 : ∀ {A' : Around} {E : Value → Shared → Prop} {Q : List Value → Shared → Prop}, Q (refsFrom hp.objs.size os.length) ⟨pushAll hp os, g, d, tk, oss⟩ → wpAny (model prog w) A' (Builtin.SmallTypes.iterAll (v :: vs)) Q E ⟨hp, g, d, tk, oss⟩ :=
      fun q => iterAll_any (s := ⟨hp, g, d, tk, oss⟩) h1 q
    have q2 : ∀ {A' : Around} {E : Value → Shared → Prop} {Q : Value → Shared → Prop}, Q (.ref (pushAll hp os).objs.size) ⟨zN1 hp os, g, d, tk, oss⟩ → wpAny (model prog w) A' (newTuple (refsFrom hp.objs.size os.length)) Q E ⟨pushAll hp os, g, d, tk, oss⟩ :=
      fun q => newTupleT (s := ⟨pushAll hp os, g, d, tk, oss⟩) (by rw [refs_len, hl]; exact hz) q
    have q3 : ∀ {A' : Around} {E : Value → Shared → Prop} {Q : Value → Shared → Prop}, Q (.ref (zN1 hp os).objs.size) ⟨zN2 hp os, g, d, tk, oss⟩ → wpAny (model prog w) A' (newTuple ((refsFrom hp.objs.size os.length).map fun _ => Value.none)) Q E ⟨zN1 hp os, g, d, tk, oss⟩ :=
      fun q => newTupleT (s := ⟨zN1 hp os, g, d, tk, oss⟩) (by rw [List.length_map, refs_len, hl]; exact hz) q
    wp_walk using q1, q2, q3
    exact ⟨_, rfl, h⟩
/-- its new cells -/
theorem zip_beginsN {v : Value} {vs : List Value} {os : List Obj} {Q : Value → Shared → Prop} (hz : (v :: vs).length ≤ sizeLine) (B : BegAll s.heap (v :: vs) os)
    (h : ∀ h', ZipO h' (s.heap.objs.size + os.length + 2) (s.heap.objs.size + os.length) (s.heap.objs.size + os.length + 1) .none false → TupN h' (s.heap.objs.size + os.length) (refsFrom s.heap.objs.size os.length) →
      TupN h' (s.heap.objs.size + os.length + 1) ((refsFrom s.heap.objs.size os.length).map fun _ => Value.none) → (∀ j o, os[j]? = some o → h'.get? (s.heap.objs.size + j) = some o) →
      (∀ c o, s.heap.get? c = some o → h'.get? c = some o) → Q (.ref (s.heap.objs.size + os.length + 2)) { s with heap := h' }) :
    wpAny (model prog w) A (call (.type "zip") (v :: vs)) Q E s := by
  refine callType_new F.called_zip (by decide) (typeCall_zipN _) (newCall_zipN _ _) (fun obj => initArgs_zipN obj _) F.entry_zip_new (meets_zip_newN (os := os) hz) ⟨B, ?_⟩
  have z0 := pushAll_size os s.heap
  have z1 : (zN1 s.heap os).objs.size = s.heap.objs.size + os.length + 1 := by rw [Heap.size_push, z0]
  have z2 : (zN2 s.heap os).objs.size = s.heap.objs.size + os.length + 2 := by rw [Heap.size_push, z1]
  have gZ : (zN3 s.heap os).get? (zN2 s.heap os).objs.size = some { cls := .type "zip", data := .fields #[.none, .bool false, .bool false, .ref (pushAll s.heap os).objs.size, .ref (zN1 s.heap os).objs.size] } := Heap.get?_push_size _ rfl
  have gO : (zN3 s.heap os).get? (zN1 s.heap os).objs.size = some { cls := .type "tuple", data := .seq ((refsFrom s.heap.objs.size os.length).map fun _ => Value.none).toArray } := Heap.get?_push_of_some _ (Heap.get?_push_size _ rfl)
  have gT : (zN3 s.heap os).get? (pushAll s.heap os).objs.size = some { cls := .type "tuple", data := .seq (refsFrom s.heap.objs.size os.length).toArray } := Heap.get?_push_of_some _ (Heap.get?_push_of_some _ (Heap.get?_push_size _ rfl))
  rw [z2, z1, z0] at gZ
  rw [z1] at gO
  rw [z0] at gT
  show _ ∧ _
  rw [z2]
  exact ⟨⟨_, gZ, rfl⟩, h _ gZ gT gO (fun j o e => Heap.get?_push_of_some _ (Heap.get?_push_of_some _ (Heap.get?_push_of_some _ (pushAll_get os _ j o B.free e)))) fun c o e => Heap.get?_push_of_some _ (Heap.get?_push_of_some _ (Heap.get?_push_of_some _ (pushAll_keep os _ c o e)))⟩
variable {z TI TO : Addr} {L : List ItZ} {i n : Nat}
theorem pyNext_zipN_item {own : Value} {f : Bool} {olds : List Value} {Q : Option Value → Shared → Prop} (S : ZSep z TI TO L) (D : ∀ d ∈ L, Draws prog w A.in1 d.it d.fp n d.P d.St) (hL : L ≠ []) (hlen : olds.length = L.length) (hsz : L.length ≤ sizeLine)
    (hz : ZipO s.heap z TI TO own f) (ho : own = .none ∨ ∃ a : Nat, own = rawInt a) (hTI : TupN s.heap TI (L.map fun d => .ref d.it)) (hTO : TupN s.heap TO olds) (st : ∀ d ∈ L, d.St i s.heap) (hlt : i < n)
    (hQ : ∀ xs h' tk own' f', All2 (fun (d : ItZ) x => d.P i x) L xs → (own' = .none ∨ ∃ a : Nat, own' = rawInt a) → ZipO h' z TI TO own' f' → (∃ olds', olds'.length = L.length ∧ TupN h' TO olds') → (∀ d ∈ L, d.St (i + 1) h') → TupN h' s.heap.objs.size xs → h'.objs.size = s.heap.objs.size + 1 →
      (∀ c o, c ≠ z → c ≠ TO → (∀ d ∈ L, c ≠ d.it) → s.heap.get? c = some o → h'.get? c = some o) → Q (some (.ref s.heap.objs.size)) { s with heap := h', toks := tk }) :
    wpAny (model prog w) A ((pyNext (.ref z))) Q E s := by
  have hT : (s.TypeIs (.ref z) "zip") := ⟨_, hz, rfl⟩
  unfold pyNext
  refine wpAny_bind (wpAny_attempt (wpAny_callSpecial?_slot (name := Str.ofString "__next__") hT F.slot_zip_next ?_))
  exact (wpAny_call_entry F.slot_zip_next hT F.entry_zip_next
      (zipN_next_item S D hL hlen hsz hz ho hTI hTO st hlt fun xs h' tk own' f' b1 b2 b3 b4 b5 b6 b7 b8 => wpAny_pure (hQ xs h' tk own' f' b1 b2 b3 b4 b5 b6 b7 b8)) (F.args_zip_next_1 _))
theorem pyNext_zipN_end {own : Value} {f : Bool} {olds : List Value} {Q : Option Value → Shared → Prop} (S : ZSep z TI TO L) (D : ∀ d ∈ L, Draws prog w A.in1 d.it d.fp n d.P d.St) (hL : L ≠ [])
    (hz : ZipO s.heap z TI TO own f) (ho : own = .none ∨ ∃ a : Nat, own = rawInt a) (hTI : TupN s.heap TI (L.map fun d => .ref d.it)) (hTO : TupN s.heap TO olds) (st : ∀ d ∈ L, d.St n s.heap)
    (hQ : ∀ h', (∀ c o, c ≠ z → c ≠ TO → (∀ d ∈ L, c ≠ d.it) → s.heap.get? c = some o → h'.get? c = some o) → Q none { s with heap := h' }) : wpAny (model prog w) A (pyNext (.ref z)) Q E s := by
  have hT : (s.TypeIs (.ref z) "zip") := ⟨_, hz, rfl⟩
  unfold pyNext
  refine wpAny_bind (wpAny_attempt (wpAny_callSpecial?_slot (name := Str.ofString "__next__") hT F.slot_zip_next ?_))
  refine wpAny_call_entry F.slot_zip_next hT F.entry_zip_next (zipN_next_end S D hL hz ho hTI hTO st fun h' e hk he => ?_) (F.args_zip_next_1 _)
  obtain ⟨o, ho, hc⟩ := he
  refine (wpAny_bind (wpAny_isInstance (T := "StopIteration") (b := true) ⟨o, ho, hc⟩ isSubtype_stop ?_))
  exact wpAny_pure (hQ _ hk)
end
end Vl
end
section
set_option maxRecDepth 100000
set_option autoImplicit false
/-! V0: tuples that are made, told as the objects they are (no dict of their own). -/
namespace Vl
open PySem PySem.Spec PyProof.Rows L2

/-- a new plain tuple -/
def nT (xs : List V) (H : Hp) (Q : VK) : Prop := ∀ (p : Addr) (o : Obj), H p = none → o.dict = none → Q (.ref p) (upd H p (.frz o (.tup xs)))
section
variable {X : Cx} {pins : List (Addr × Obj)} {s : Shared} {σ : L2.St} {H : Hp} {Q : VK}
theorem frz_ok {xs : List V} {uvs : List Value} {h : Heap} (iv : L2.Inv X pins σ H s) (z : xs.length ≤ sizeLine) (r : Vals xs uvs) (hk : ∀ b u, s.heap.get? b = some u → h.get? b = some u) (q : nT xs H Q) :
    EP X pins σ Q (.ref h.objs.size) { s with heap := h.push { cls := .type "tuple", data := .seq uvs.toArray } } := by
  have iv1 : L2.Inv X pins σ H { s with heap := h } := iv.kept (t' := s.toks) hk
  refine ⟨.ref h.objs.size, upd H h.objs.size (.frz { cls := .type "tuple", data := .seq uvs.toArray } (.tup xs)), iv1.laid (t' := s.toks) (fun b u e => Heap.get?_push_of_some _ e) (Nat.le_refl _) ?_, rfl, q _ _ (iv1.hok.fresh (Nat.le_refl _)) rfl⟩
  exact ⟨Heap.get?_push_size _ rfl, z, uvs, r, ⟨_, Heap.get?_push_size _ rfl, rfl, _, rfl⟩⟩
def tTupF (t : L2.TA) : TE := fun σ H Q => t σ H fun xs H1 => xs.length ≤ sizeLine ∧ nT xs H1 Q
theorem pe_tupF {es : List Expr} {t : L2.TA} {x1 : Nat} {pos : Pos} (h : PA X es t) : PE X (.Tuple es x1 pos) (tTupF t) := by
  refine ⟨fun pins s σ H Q iv sq0 => wpAny_Tuple_spliced (thn (h.run pos pins s σ H _ iv sq0) fun uvs s1 ⟨xs, H1, iv1, r, z, q⟩ => ⟨by rw [← r.length]; exact z, ?_⟩)⟩
  exact frz_ok iv1 z r (fun _ _ e => e) q
def rTupleOf (K : PySem.W.Frag) : List V → Hp → VK → Prop := fun xs H Q => ∃ p ws, xs = [.ref p] ∧ ((SqL K H p ws ∧ nT ws H Q) ∨ (SqT K H p ws ∧ Q (.ref p) H))
theorem call_tupF : CallR X (.type "tuple") (rTupleOf X.K) := by
  intro pins s σ H xs uvs Q iv r h
  obtain ⟨p, ws, rfl, h⟩ := h
  obtain ⟨u, rfl, rlx⟩ := vals1 r
  cases rlx
  rcases h with ⟨sq0, q⟩ | ⟨sq0, q⟩
  · obtain ⟨itz, rl0, plx, szz⟩ := iv.list sq0
    have lnn := rl0.length
    exact call_tuple_list plx.isList (fun h' kp => frz_ok iv szz rl0 kp q) (by simp only [List.size_toArray] <;> omega)
  · obtain ⟨itz, rl0, plx, szz⟩ := iv.tuple sq0
    exact call_tuple_same plx ⟨.ref p, H, iv, rfl, q⟩
def rCatF (K : PySem.W.Frag) : R2 := fun x y H Q => ∃ a b xs ws, x = .ref a ∧ y = .ref b ∧ SqT K H a xs ∧ SqT K H b ws ∧ xs.length + ws.length ≤ sizeLine ∧
  (xs = [] → Q (.ref b) H) ∧ (xs ≠ [] → ws = [] → Q (.ref a) H) ∧ (xs ≠ [] → ws ≠ [] → nT (xs ++ ws) H Q)
theorem op_catF : OpR X (binaryOp .Add) (rCatF X.K) := by
  intro pins s σ H x y v u Q iv rlx rly h
  obtain ⟨a, b, xs, ws, rfl, rfl, sqa, sqb, szz, k0, k1, k2⟩ := h
  by_cases nox : xs = []
  · exact op_catA pins s σ H _ _ v u Q iv rlx rly ⟨a, b, xs, ws, rfl, rfl, sqa, sqb, szz, k0, fun n => absurd nox n, fun n => absurd nox n⟩
  · cases rlx
    cases rly
    obtain ⟨itz, rl1, pl1, _⟩ := iv.tuple sqa
    obtain ⟨itw, rl2, pl2, _⟩ := iv.tuple sqb
    exact HT.cat_tup pl1 pl2 (fun z => nox (rl1.nil_iff.mp z)) (fun z => ⟨.ref a, H, iv, rfl, k1 nox (rl2.nil_iff.mp z)⟩)
      (fun z => frz_ok iv (by rw [List.length_append]; exact szz) (rl1.append rl2) (fun _ _ e => e) (k2 nox fun w => z (rl2.nil_iff.mpr w))) (by rw [← rl1.length, ← rl2.length]; exact szz)
def rSlF (K : PySem.W.Frag) : V → Option Int → Option Int → Hp → VK → Prop := fun x lo hi H Q => ∃ a xs, x = .ref a ∧ SqT K H a xs ∧
  (HT.sIx xs.length 0 lo = 0 ∧ HT.sIx xs.length xs.length hi = xs.length → Q (.ref a) H) ∧ (¬ (HT.sIx xs.length 0 lo = 0 ∧ HT.sIx xs.length xs.length hi = xs.length) → nT (cutV xs lo hi) H Q)
theorem sl_tupF : SlR X (rSlF X.K) := by
  intro pins s σ H x v vl vu lo hi sl Q iv rlx hs plx pu h
  obtain ⟨a, xs, rfl, nox, k1, k2⟩ := h
  by_cases wh : HT.sIx xs.length 0 lo = 0 ∧ HT.sIx xs.length xs.length hi = xs.length
  · exact sl_tupA pins s σ H _ v vl vu lo hi sl Q iv rlx hs plx pu ⟨a, xs, rfl, nox, k1, fun n => absurd wh n⟩
  · cases rlx
    obtain ⟨itz, r, tup, szz⟩ := iv.tuple nox
    have lnn : itz.toArray.size = xs.length := by rw [List.size_toArray]; exact r.length.symm
    refine ⟨"tuple", _, PyProof.Rows.slot_tuple_getitem.lookup, tup.typeIs, ?_⟩
    refine HT.getItem_tuple_cut tup hs plx pu (by rw [lnn]; exact wh) ?_ (by rw [lnn]; exact szz)
    rw [lnn]
    exact frz_ok iv (Nat.le_trans (cutV_length xs lo hi) szz) ((r.drop (HT.sIx xs.length 0 lo)).take (HT.sIx xs.length xs.length hi - HT.sIx xs.length 0 lo)) (fun _ _ e => e) (k2 wh)
end
end Vl
end
section
set_option maxRecDepth 100000
set_option maxHeartbeats 2000000
set_option autoImplicit false
/-! V0m: tuple * int, one and more. -/
namespace Vl
open PySem PySem.Spec PyProof.Rows L2

theorem tup_mul1 (l : Addr) (items : Array Value) (n : Nat) (dd : Option Addr) (sl : Array (Option Value)) (x : Int) (u : Tok) (c0 : (decide (x < -(2 ^ 63)) || decide (x ≥ 2 ^ 63)) = false) (c1 : (items.isEmpty || x == 1) = true) :
    Meets (Builtin.«tuple.__mul__» (⟨[.ref l, .int x u], []⟩)) (fun _ R s => s.heap.get? l = some { cls := .type "tuple", dict := dd, data := .seq items n, slots := sl } ∧ R (.ok (.ret (Value.ref l))) s) :=
  .of_wp fun prog w A R s => fun h => by
    obtain ⟨hp, g, d, tk, os⟩ := (s)
    obtain ⟨hl, h⟩ := h
    have f1 := AutoSeq1.idx_int
    (wp_walk using wpAny_loadPart' hl)
    repeat (first
      | (refine wpAny_ite_false (decide_eq_false (by rw [c0]; exact (Bool.false_ne_true))) ?_; wp_walk using wpAny_loadPart' hl)
      | (refine wpAny_ite_true (decide_eq_true c1) ?_; wp_walk using wpAny_loadPart' hl))
    exact ⟨_, rfl, h⟩
theorem tup_mul0 (l : Addr) (items : Array Value) (n : Nat) (dd : Option Addr) (sl : Array (Option Value)) (x : Int) (u : Tok) (c0 : (decide (x < -(2 ^ 63)) || decide (x ≥ 2 ^ 63)) = false) (c1 : (items.isEmpty || x == 1) = false) (c2 : (decide (x ≤ 0) || items.isEmpty) = true) :
    Meets (Builtin.«tuple.__mul__» (⟨[.ref l, .int x u], []⟩)) (fun _ R s => s.heap.get? l = some { cls := .type "tuple", dict := dd, data := .seq items n, slots := sl } ∧
      R (.ok (.ret (Value.ref s.heap.objs.size))) { s with heap := s.heap.push { cls := Value.type "tuple", data := Data.seq ([] : List Value).toArray }, toks := s.toks }) :=
  .of_wp fun prog w A R s => fun h => by
    obtain ⟨hp, g, d, tk, os⟩ := (s)
    obtain ⟨hl, h⟩ := h
    have f1 := AutoSeq1.idx_int
    (wp_walk using wpAny_loadPart' hl)
    repeat (first
      | (refine wpAny_ite_false (decide_eq_false (by rw [c0]; exact (Bool.false_ne_true))) ?_; wp_walk using wpAny_loadPart' hl)
      | (refine wpAny_ite_false (decide_eq_false (by rw [c1]; exact (Bool.false_ne_true))) ?_; wp_walk using wpAny_loadPart' hl)
      | (refine wpAny_ite_true (decide_eq_true c2) ?_; wp_walk using wpAny_loadPart' hl))
    exact ⟨_, rfl, h⟩
def rRepF (K : PySem.W.Frag) : R2 := fun x y H Q => ∃ l k xs, x = .ref l ∧ y = .int k ∧ SqT K H l xs ∧ -(2 ^ 63) ≤ k ∧ k < 2 ^ 63 ∧ xs.length * k.toNat ≤ 1000000 ∧
  ((xs = [] ∨ k = 1) → Q (.ref l) H) ∧ (xs ≠ [] → k ≤ 0 → nT [] H Q) ∧ (xs ≠ [] → 2 ≤ k → nT (List.replicate k.toNat xs).flatten H Q)
theorem op_repF {X : Cx} : OpR X (binaryOp .Mult) (rRepF X.K) := by
  intro pins s σ H x y; intro v u Q I rx ry h
  obtain ⟨l, k, xs, rfl, rfl, hT, h1, h2, hz, q1, q0, q2⟩ := h
  cases rx
  obtain ⟨t, rfl⟩ := ry
  obtain ⟨its, r, ⟨⟨cls, dd, data, sl⟩, ho, hc, n, hd⟩, hs⟩ := (I.tuple hT)
  simp only at hc hd
  subst hc hd
  have hle : (its.length = xs.length) := r.length.symm
  have c0 : ((decide (k < -(2 ^ 63)) || decide (k ≥ 2 ^ 63)) = false) := by
    (rw [decide_eq_false (by omega), decide_eq_false (by omega)] <;> exact rfl)
  refine wpAny_binaryOp_repeat_ref (T := "tuple") (U := "int") (by decide) ⟨_, ho, rfl⟩ (fun s' => typeIs_int s' k t) noFill_tuple_mul (F.fills_int_mul) F.slot_int_rmul repeat_tuple F.slot_int_index.lookup
    (call_meets F.slot_int_rmul (typeIs_int s k t) F.entry_int_rmul (F.args_int_rmul_2 _ _) (int_rmul_tuple k t l its.toArray n dd sl) ⟨ho, rfl, ⟨_, ho, rfl⟩, ?_⟩)
  by_cases hc1 : xs = [] ∨ k = 1
  · have c1 : (its.toArray.isEmpty || k == 1) = true := by
      rcases hc1 with rfl | rfl
      · have : its = [] := List.length_eq_zero_iff.mp (by rw [hle]; rfl)
        subst this; rfl
      · simp
    exact call_meets F.slot_tuple_mul ⟨_, ho, rfl⟩ F.entry_tuple_mul (F.args_tuple_mul_2 _ _) (tup_mul1 l its.toArray n dd sl k t c0 c1) ⟨ho, ⟨.ref l, H, I, rfl, q1 hc1⟩⟩
  · have hne : xs ≠ [] := fun z => hc1 (.inl z)
    have hk1 : k ≠ 1 := fun z => hc1 (.inr z)
    have hn : its ≠ [] := fun e => hne (List.length_eq_zero_iff.mp (by rw [← hle, e]; rfl))
    have hi : (its.toArray.isEmpty = false) := by
      cases its with
      | nil => exact absurd rfl hn
      | cons a b => rfl
    have c1 : ((its.toArray.isEmpty || k == 1) = false) := by
      rw [hi, Bool.false_or]
      exact beq_eq_false_iff_ne.mpr hk1
    by_cases hk : k ≤ 0
    · have c2 : (decide (k ≤ 0) || its.toArray.isEmpty) = true := by rw [decide_eq_true hk, Bool.true_or]
      exact call_meets F.slot_tuple_mul ⟨_, ho, rfl⟩ F.entry_tuple_mul (F.args_tuple_mul_2 _ _) (tup_mul0 l its.toArray n dd sl k t c0 c1 c2) ⟨ho, frz_ok I (Nat.zero_le _) .nil (fun _ _ e => e) (q0 hne hk)⟩
    · have c2 : (decide (k ≤ 0) || its.toArray.isEmpty) = false := by
        rw [hi, Bool.or_false]
        exact decide_eq_false hk
      have e1 : (k.toNat : Int) = k := Int.toNat_of_nonneg (by omega)
      have e2 : ((its.toArray.size : Nat) : Int) * k ≤ 1000000 := by
        rw [List.size_toArray, hle, ← e1, ← Int.natCast_mul]
        exact Int.ofNat_le.mpr hz
      have flen : ((List.replicate k.toNat its).flatten.length ≤ sizeLine) := by
        rw [PyProof.Rows.lm_len_rep_flat, hle, sizeLine_eq, Nat.mul_comm]
        omega
      have c4 : (Builtin.Tuple.tupleTooMany (((its.toArray.size : Nat) : Int) * k) = false) := by
        (unfold Builtin.Tuple.tupleTooMany)
        rw [sizeLine_eq]
        exact (decide_eq_false (by omega))
      refine call_meets F.slot_tuple_mul ⟨_, ho, rfl⟩ F.entry_tuple_mul (F.args_tuple_mul_2 _ _) (tuple_mulW l its.toArray n dd sl k t c0 c1 c2 (by omega) c4 (by rw [size_rep, List.size_toArray]; exact flen)) ⟨ho, ?_⟩
      rw [size_rep]
      exact frz_ok I (by rw [PyProof.Rows.lm_len_rep_flat, sizeLine_eq, Nat.mul_comm]; omega) (r.rep k.toNat) (fun _ _ e => e) (q2 hne (by omega))
end Vl
end
section
set_option maxRecDepth 100000
set_option autoImplicit false
/-! V1: values by content, what is owned, environments, posts. -/
namespace Vl
open PySem L2

abbrev D := PyData
/-- a list, a tuple of the written part -/
def KT (K : PySem.W.Frag) (a : Addr) (xs : List V) : Prop := ∃ (o : Obj) (its : Array Value) (n : Nat), K.lookup a = some o ∧ o.cls = .type "tuple" ∧ o.data = .seq its n ∧ its.size ≤ sizeLine ∧ Vals xs its.toList ∧ o.dict = none
abbrev AS := Addr → Prop
def LA (A : AS) (H : Hp) (a : Addr) (xs : List V) : Prop := H a = some (.lst xs) ∧ ¬ A a
def TA (K : PySem.W.Frag) (A : AS) (H : Hp) (a : Addr) (xs : List V) : Prop := (∃ o, H a = some (.frz o (.tup xs)) ∧ o.dict = none ∧ ¬ A a) ∨ KT K a xs
theorem LA.sq {K : PySem.W.Frag} {A : AS} {H : Hp} {a : Addr} {xs : List V} (h : LA A H a xs) : SqL K H a xs := .inl (.inl h.1)
theorem TA.sq {K : PySem.W.Frag} {A : AS} {H : Hp} {a : Addr} {xs : List V} (h : TA K A H a xs) : SqT K H a xs := h.elim (fun ⟨o, h, _⟩ => .inl (.inr ⟨o, h⟩)) fun ⟨o, its, n, h1, h2, h3, h4, h5, _⟩ => .inr ⟨o, its, n, h1, h2, h3, h4, h5⟩

def keyD : Key → D
  | .inl i => .int i
  | .inr s => .str s
/-- a dict of ints and texts -/
def DA (A : AS) (H : Hp) (a : Addr) (kv : List (Key × V)) : Prop := H a = some (.dK kv) ∧ ¬ A a
mutual
def Rep (K : PySem.W.Frag) (A : AS) (H : Hp) : D → V → Prop
  | .none, v => v = .non
  | .bool b, v => v = .bl b
  | .int i, v => v = .int i
  | .str s, v => v = .str s
  | .list ds, v => ∃ a vs, v = .ref a ∧ LA A H a vs ∧ Reps K A H ds vs
  | .tuple ds, v => ∃ a vs, v = .ref a ∧ TA K A H a vs ∧ Reps K A H ds vs
  | .dict kvs, v => ∃ a kv, v = .ref a ∧ DA A H a kv ∧ RepD K A H kvs kv
def Reps (K : PySem.W.Frag) (A : AS) (H : Hp) : List D → List V → Prop
  | [], vs => vs = []
  | d :: ds, vs => ∃ v r, vs = v :: r ∧ Rep K A H d v ∧ Reps K A H ds r
def RepD (K : PySem.W.Frag) (A : AS) (H : Hp) : List (D × D) → List (Key × V) → Prop
  | [], kv => kv = []
  | (k, d) :: ds, kv => ∃ q v r, kv = (q, v) :: r ∧ k = keyD q ∧ Rep K A H d v ∧ RepD K A H ds r
end

section
variable {K : PySem.W.Frag} {A A' : AS} {H H' : Hp}
/-- what stays of what may be read -/
def Nt (u : HO) : Prop := ∀ ps, u ≠ .tbl ps
theorem nt_lst {xs : List V} : Nt (.lst xs) := fun _ z => nomatch z
theorem nt_dK {xs : List (Key × V)} : Nt (.dK xs) := fun _ z => nomatch z
theorem nt_frz {o : Obj} {u : HO} : Nt (.frz o u) := fun _ z => nomatch z
def Stay (A A' : AS) (H H' : Hp) : Prop := ∀ a u, H a = some u → Nt u → ¬ A a → H' a = some u ∧ ¬ A' a
theorem LA.mono (m : Stay A A' H H') {a : Addr} {xs : List V} (h : LA A H a xs) : LA A' H' a xs := m a _ h.1 nt_lst h.2
theorem DA.mono (m : Stay A A' H H') {a : Addr} {xs : List (Key × V)} (h : DA A H a xs) : DA A' H' a xs := m a _ h.1 nt_dK h.2
theorem TA.mono (m : Stay A A' H H') {a : Addr} {xs : List V} (h : TA K A H a xs) : TA K A' H' a xs := h.elim (fun ⟨o, h, d, n⟩ => .inl ⟨o, (m a _ h nt_frz n).1, d, (m a _ h nt_frz n).2⟩) .inr
mutual
theorem Rep.mono (m : Stay A A' H H') : ∀ (d : D) (v : V), Rep K A H d v → Rep K A' H' d v
  | .none, _, h => h
  | .bool _, _, h => h
  | .int _, _, h => h
  | .str _, _, h => h
  | .list ds, _, ⟨a, vs, e, l, r⟩ => ⟨a, vs, e, l.mono m, Reps.mono m ds vs r⟩
  | .tuple ds, _, ⟨a, vs, e, l, r⟩ => ⟨a, vs, e, l.mono m, Reps.mono m ds vs r⟩
  | .dict ds, _, ⟨a, vs, e, l, r⟩ => ⟨a, vs, e, l.mono m, RepD.mono m ds vs r⟩
theorem Reps.mono (m : Stay A A' H H') : ∀ (ds : List D) (vs : List V), Reps K A H ds vs → Reps K A' H' ds vs
  | [], _, h => h
  | d :: ds, _, ⟨v, r, e, h1, h2⟩ => ⟨v, r, e, Rep.mono m d v h1, Reps.mono m ds r h2⟩
theorem RepD.mono (m : Stay A A' H H') : ∀ (ds : List (D × D)) (vs : List (Key × V)), RepD K A H ds vs → RepD K A' H' ds vs
  | [], _, h => h
  | (k, d) :: ds, _, ⟨q, v, r, e, ek, h1, h2⟩ => ⟨q, v, r, e, ek, Rep.mono m d v h1, RepD.mono m ds r h2⟩
end
theorem Reps.length : ∀ {ds : List D} {vs : List V}, Reps K A H ds vs → vs.length = ds.length
  | [], _, h => by rw [show _ = [] from h]; rfl
  | _ :: _, _, ⟨_, _, e, _, h⟩ => by rw [e, List.length_cons, List.length_cons, Reps.length h]
theorem Reps.get : ∀ {ds : List D} {vs : List V} {i : Nat} {v : V}, Reps K A H ds vs → vs[i]? = some v → ∃ d, ds[i]? = some d ∧ Rep K A H d v
  | [], _, _, _, h, e => by rw [show _ = [] from h] at e; simp at e
  | d :: ds, _, 0, v, ⟨x, r, e, h, _⟩, q => by subst e; simp at q; subst q; exact ⟨d, rfl, h⟩
  | d :: ds, _, i + 1, v, ⟨x, r, e, _, h⟩, q => by
    subst e
    obtain ⟨d', e', h'⟩ := Reps.get (i := i) h (by simpa using q)
    exact ⟨d', by simpa using e', h'⟩
theorem Reps.get' : ∀ {ds : List D} {vs : List V} {i : Nat} {d : D}, Reps K A H ds vs → ds[i]? = some d → ∃ v, vs[i]? = some v ∧ Rep K A H d v
  | [], _, _, _, h, e => by simp at e
  | _ :: ds, _, 0, d, ⟨x, r, e, h, _⟩, q => by subst e; simp at q; subst q; exact ⟨x, rfl, h⟩
  | _ :: ds, _, i + 1, d, ⟨x, r, e, _, h⟩, q => by
    subst e
    obtain ⟨v, e', h'⟩ := Reps.get' (i := i) h (by simpa using q)
    exact ⟨v, by simpa using e', h'⟩
theorem Reps.append : ∀ {ds es : List D} {vs us : List V}, Reps K A H ds vs → Reps K A H es us → Reps K A H (ds ++ es) (vs ++ us)
  | [], _, _, _, h, q => by rw [show _ = [] from h]; exact q
  | _ :: _, _, _, _, ⟨x, r, e, h, t⟩, q => by subst e; exact ⟨x, _, rfl, h, Reps.append t q⟩
theorem Reps.take : ∀ {ds : List D} {vs : List V} (n : Nat), Reps K A H ds vs → Reps K A H (ds.take n) (vs.take n)
  | _, _, 0, _ => rfl
  | [], _, _ + 1, h => by rw [show _ = [] from h]; rfl
  | _ :: _, _, n + 1, ⟨x, r, e, h, t⟩ => by subst e; exact ⟨x, _, rfl, h, Reps.take n t⟩
theorem Reps.drop : ∀ {ds : List D} {vs : List V} (n : Nat), Reps K A H ds vs → Reps K A H (ds.drop n) (vs.drop n)
  | _, _, 0, h => h
  | [], _, _ + 1, h => by rw [show _ = [] from h]; rfl
  | _ :: _, _, n + 1, ⟨x, r, e, h, t⟩ => by subst e; exact Reps.drop n t
theorem Reps.set {d : D} {v : V} (q : Rep K A H d v) : ∀ {ds : List D} {vs : List V} (n : Nat), Reps K A H ds vs → Reps K A H (ds.set n d) (vs.set n v)
  | [], _, _, h => by rw [show _ = [] from h]; rfl
  | _ :: _, _, 0, ⟨x, r, e, h, t⟩ => by subst e; exact ⟨v, r, rfl, q, t⟩
  | _ :: _, _, n + 1, ⟨x, r, e, h, t⟩ => by subst e; exact ⟨x, _, rfl, h, Reps.set q n t⟩
theorem Reps.one {d : D} {v : V} (h : Rep K A H d v) : Reps K A H [d] [v] := ⟨v, [], rfl, h, rfl⟩
theorem Reps.reverse : ∀ {ds : List D} {vs : List V}, Reps K A H ds vs → Reps K A H ds.reverse vs.reverse
  | [], _, h => by rw [show _ = [] from h]; rfl
  | _ :: _, _, ⟨x, r, e, h, t⟩ => by
    subst e
    rw [List.reverse_cons]; rw [List.reverse_cons]
    exact (Reps.reverse t).append (Reps.one h)
end

/-! ### the pen: the list of its cells, the turn, the stock -/
structure Pen where
  cells : List Int
  k : Int
  s : Int
  tb : List (Addr × Str)
/-- where the pen and its cells lie, if there is one; the tables of the code objects of lambdas, with their names -/
structure PL where
  pen : Option (Addr × Addr)
  tb : List (Addr × Str)
def Pn (pa : PL) (b : Addr) : Prop := ∃ c, pa.pen = some (b, c)
def PenOk (pa : PL) (H : Hp) (P : Pen) : Prop := (∀ p c, pa.pen = some (p, c) → p ≠ c ∧ H p = some (.lst [.ref c, .int P.k, .int P.s]) ∧ H c = some (.lst (P.cells.map V.int))) ∧ LamX.Tabs pa.tb H ∧ P.tb = pa.tb
/-- all but the pen and tables as it was -/
def HExt (pa : PL) (H H' : Hp) : Prop := ∀ b o, H b = some o → ¬ Pn pa b → Nt o → H' b = some o
theorem HExt.at {pa : PL} {H H' : Hp} (e : HExt pa H H') {b : Addr} {o : HO} (h : H b = some o) (n : ¬ Pn pa b) (t : Nt o := by exact nt_lst) : H' b = some o := e b o h n t
theorem HExt.refl (pa : PL) (H : Hp) : HExt pa H H := fun _ _ h _ _ => h
theorem HExt.trans {pa : PL} {H H1 H2 : Hp} (a : HExt pa H H1) (b : HExt pa H1 H2) : HExt pa H H2 := fun c o h n t => b c o (a c o h n t) n t
theorem HExt.of {pa : PL} {H H' : Hp} (h : Same H H') : HExt pa H H' := fun b o e _ _ => h b o e
/-- without the pen -/
def PL.bare (pa : PL) : PL := ⟨none, pa.tb⟩
theorem HExt.none {pa : PL} {H H' : Hp} (h : HExt pa.bare H H') : HExt pa H H' := fun b o e _ t => h b o e (fun ⟨_, z⟩ => nomatch z) t
theorem HExt.penOk {pa : PL} {H H' : Hp} {P P' : Pen} (h : HExt pa.bare H H') (p : PenOk pa H P) (q : PenOk pa.bare H' P') : PenOk pa H' P :=
  ⟨fun a c e => ⟨(p.1 a c e).1, h.at (p.1 a c e).2.1 (fun ⟨_, z⟩ => nomatch z), h.at (p.1 a c e).2.2 (fun ⟨_, z⟩ => nomatch z)⟩, q.2.1, p.2.2⟩
/-- nothing but a table may stand there -/
def New (H : Hp) (a : Addr) : Prop := ∀ o, H a = some o → ¬ Nt o
theorem New.of {H : Hp} {a : Addr} (h : H a = none) : New H a := fun o e => by rw [h] at e; cases e

/-- an object that is no table and no code object may change -/
def Free1 : Option HO → Prop
  | some (.tbl _) => False
  | some (.ext _) => False
  | _ => True
theorem tabs_upd {T : List (Addr × Str)} {H : Hp} {a : Addr} {o : HO} (t : LamX.Tabs T H) (h : Free1 (H a)) : LamX.Tabs T (upd H a o) := fun p hp => by
  obtain ⟨ps, h1, h2, h3⟩ := t p hp
  refine ⟨ps, ?_, h2, fun pos cv hc => ?_⟩
  · rw [upd_ne (fun z => by rw [← z, h1] at h; exact h)]; exact h1
  · obtain ⟨c, e1, e2⟩ := h3 pos cv hc
    refine ⟨c, e1, ?_⟩
    rw [upd_ne (fun z => by rw [← z, e2] at h; exact h)]; exact e2
/-! ### slots -/
inductive SV where
  | un
  | v (d : D)
  | own (ds : List D)
  | pen
  | scr (ns : List Int)
abbrev Env := List SV
/-- the script: a list that nobody writes -/
def ScrOk (K : PySem.W.Frag) (A : AS) (H : Hp) (v : V) (ns : List Int) : Prop := ∃ a, v = .ref a ∧ (((∃ ob, H a = some (.frz ob (.lst (ns.map V.int)))) ∧ ¬ A a) ∨
  ∃ (o : Obj) (its : Array Value) (n : Nat), K.lookup a = some o ∧ o.cls = .type "list" ∧ o.dict = none ∧ o.data = .seq its n ∧ its.size ≤ sizeLine ∧ Vals (ns.map V.int) its.toList)
theorem ScrOk.mono {K : PySem.W.Frag} {A A' : AS} {H H' : Hp} (m : Stay A A' H H') {v : V} {ns : List Int} (h : ScrOk K A H v ns) : ScrOk K A' H' v ns := by
  obtain ⟨a, e, ⟨⟨ob, h1⟩, h2⟩ | h⟩ := h
  · obtain ⟨q1, q2⟩ := m a _ h1 nt_frz h2
    exact ⟨a, e, .inl ⟨⟨ob, q1⟩, q2⟩⟩
  · exact ⟨a, e, .inr h⟩
theorem ScrOk.sq {K : PySem.W.Frag} {A : AS} {H : Hp} {v : V} {ns : List Int} (h : ScrOk K A H v ns) : ∃ a, v = .ref a ∧ SqL K H a (ns.map V.int) := by
  obtain ⟨a, e, ⟨⟨ob, h1⟩, h2⟩ | h⟩ := h
  · exact ⟨a, e, .inl (.inr ⟨ob, h1⟩)⟩
  · exact ⟨a, e, .inr h⟩
def SlotOk (K : PySem.W.Frag) (pa : PL) (A : AS) (H : Hp) (o : Option V) : SV → Prop
  | .un => True
  | .v d => ∃ x, o = some x ∧ Rep K A H d x
  | .own ds => ∃ a vs, o = some (.ref a) ∧ A a ∧ (∀ p c, pa.pen = some (p, c) → a ≠ p ∧ a ≠ c) ∧ H a = some (.lst vs) ∧ Reps K A H ds vs
  | .pen => ∃ p c, pa.pen = some (p, c) ∧ o = some (.ref p)
  | .scr ns => ∃ x, o = some x ∧ ScrOk K A H x ns

structure Wd where
  pa : PL
  H0 : Hp
  A0 : AS
  G : List (V × D)

structure EOk (K : PySem.W.Frag) (W : Wd) (A : AS) (σ : L2.St) (H : Hp) (env : Env) (P : Pen) : Prop where
  len : σ.length = env.length
  slot : ∀ (i : Nat) (o : Option V) (s : SV), σ[i]? = some o → env[i]? = some s → SlotOk K W.pa A H o s
  inj : ∀ (i j : Nat) (ds es : List D) (a : Addr), i ≠ j → env[i]? = some (.own ds) → env[j]? = some (.own es) → σ[i]? = some (some (.ref a)) → σ[j]? ≠ some (some (.ref a))
  fresh : ∀ (i : Nat) (ds : List D) (a : Addr), env[i]? = some (.own ds) → σ[i]? = some (some (.ref a)) → New W.H0 a
  sub : ∀ a, W.A0 a → A a
  a0 : ∀ a, W.A0 a → ∃ o, W.H0 a = some o ∧ Nt o
  trk : ∀ a, A a → ∃ o, H a = some o ∧ Nt o
  penA : ∀ p c, W.pa.pen = some (p, c) → A p ∧ A c
  pen : PenOk W.pa H P
  base : HExt W.pa W.H0 H
  keep : ∀ g ∈ W.G, Rep K A H g.2 g.1

section
variable {K : PySem.W.Frag} {W : Wd} {A : AS} {σ : L2.St} {H H' : Hp} {env : Env} {P P' : Pen}
theorem stay_ext (e : HExt W.pa H H') (pA : ∀ p c, W.pa.pen = some (p, c) → A p ∧ A c) : Stay A A H H' := fun a u r t n => by
  refine ⟨?_, n⟩
  have np : ¬ Pn W.pa a := fun ⟨c, z⟩ => n (pA _ _ z).1
  exact e.at r np t
/-- the heap has grown, the pen has moved -/
theorem EOk.ext (k : EOk K W A σ H env P) (e : HExt W.pa H H') (p : PenOk W.pa H' P') : EOk K W A σ H' env P' := by
  have m : Stay A A H H' := stay_ext e k.penA
  refine ⟨k.len, fun i o s h1 h2 => ?_, k.inj, k.fresh, k.sub, k.a0, fun a h => ?_, k.penA, p, k.base.trans e, fun g hg => Rep.mono m _ _ (k.keep g hg)⟩
  · have q := k.slot i o s h1 h2
    cases s with
    | un => trivial
    | v d => obtain ⟨x, e1, r⟩ := q; exact ⟨x, e1, Rep.mono m _ _ r⟩
    | own ds =>
      obtain ⟨a, vs, e1, ha, hp, hl, r⟩ := q
      exact ⟨a, vs, e1, ha, hp, e.at hl fun ⟨c, z⟩ => (hp _ _ z).1 rfl, Reps.mono m _ _ r⟩
    | pen => exact q
    | scr ns => obtain ⟨x, e1, r⟩ := q; exact ⟨x, e1, r.mono m⟩
  · by_cases hp : Pn W.pa a
    · obtain ⟨c, z⟩ := hp
      exact ⟨_, (p.1 _ _ z).2.1, nt_lst⟩
    · obtain ⟨o, ho, ht⟩ := k.trk a h
      exact ⟨o, e a o ho hp ht, ht⟩
theorem EOk.rep (k : EOk K W A σ H env P) (e : HExt W.pa H H') {d : D} {v : V} (r : Rep K A H d v) : Rep K A H' d v := Rep.mono (stay_ext e k.penA) _ _ r
theorem EOk.reps (k : EOk K W A σ H env P) (e : HExt W.pa H H') {d : List D} {v : List V} (r : Reps K A H d v) : Reps K A H' d v := Reps.mono (stay_ext e k.penA) _ _ r
/-- with one more thing kept -/
theorem EOk.keeps (k : EOk K W A σ H env P) {d : D} {v : V} (r : Rep K A H d v) : EOk K { W with G := (v, d) :: W.G } A σ H env P :=
  ⟨k.len, k.slot, k.inj, k.fresh, k.sub, k.a0, k.trk, k.penA, k.pen, k.base, fun g hg => by
    rcases (List.mem_cons.mp hg) with rfl | hg
    · exact r
    · exact k.keep g hg⟩
theorem EOk.unkeep {g : V × D} (k : EOk K { W with G := g :: W.G } A σ H env P) : EOk K W A σ H env P ∧ Rep K A H g.2 g.1 :=
  ⟨⟨k.len, k.slot, k.inj, k.fresh, k.sub, k.a0, k.trk, k.penA, k.pen, k.base, fun x hx => k.keep x (List.mem_cons_of_mem _ hx)⟩, k.keep g List.mem_cons_self⟩
end

/-! ### results -/
inductive R (α : Type) where
  | ok (a : α) (P : Pen)
  | ex (c : Str) (P : Pen)
  | no
abbrev M (α : Type) := Pen → R α
@[inline] def ret {α : Type} (a : α) : M α := fun P => .ok a P
def bnd {α β : Type} (m : M α) (f : α → M β) : M β := fun P => match m P with
  | .ok a P' => f a P'
  | .ex c P' => .ex c P'
  | .no => .no
def no {α : Type} : M α := fun _ => .no
def orNo {α : Type} : Option α → M α
  | some a => ret a
  | none => no
def raiseM {α : Type} (c : Str) : M α := fun P => .ex c P
instance : Monad M where
  pure := ret
  bind := bnd

/-- what an expression hands over: a value | one whose own place may be anybody's (but the pen's) | a new list -/
inductive Kd where
  | v | b | f
  deriving DecidableEq
def RepB (K : PySem.W.Frag) (pa : PL) (A : AS) (H : Hp) : D → V → Prop
  | .list ds, v => ∃ a vs, v = .ref a ∧ LA (Pn pa) H a vs ∧ Reps K A H ds vs
  | d, v => Rep K A H d v
/-- with one more place avoided -/
def ad (A : AS) (a : Addr) : AS := fun b => A b ∨ b = a
def rel (K : PySem.W.Frag) (pa : PL) (A : AS) (H H' : Hp) (d : D) (v : V) : Kd → Prop
  | .v => Rep K A H' d v
  | .b => RepB K pa A H' d v
  | .f => ∃ a vs ds, d = .list ds ∧ v = .ref a ∧ New H a ∧ H' a = some (.lst vs) ∧ Reps K (ad A a) H' ds vs

section
variable {K : PySem.W.Frag} {W : Wd} {A : AS} {σ : L2.St} {H H' H'' : Hp} {env : Env} {P P' : Pen} {d : D} {v : V}
theorem fresh_back (k : PenOk W.pa H P) (e : HExt W.pa H H') (p' : PenOk W.pa H' P') {a : Addr} (n : New H' a) : New H a := fun o q t => by
  by_cases hp : Pn W.pa a
  · obtain ⟨c, z⟩ := hp
    exact n _ (p'.1 _ _ z).2.1 nt_lst
  · exact n o (e a o q hp t) t
theorem rel_back {kd : Kd} (k : PenOk W.pa H P) (e : HExt W.pa H H') (p' : PenOk W.pa H' P') (r : rel K W.pa A H' H'' d v kd) : rel K W.pa A H H'' d v kd := by
  cases kd with
  | v => exact r
  | b => exact r
  | f =>
    obtain ⟨a, vs, ds, e1, e2, n, q⟩ := r
    exact ⟨a, vs, ds, e1, e2, fresh_back k e p' n, q⟩
theorem penOk_same {pa : PL} (s : Same H H') (p : PenOk pa H P) : PenOk pa H' P := ⟨fun a c e => ⟨(p.1 a c e).1, s _ _ (p.1 a c e).2.1, s _ _ (p.1 a c e).2.2⟩, p.2.1.ext s, p.2.2⟩
end

section
variable (K : PySem.W.Frag) (Ex : Str → Hp → Prop)
def PostG {α : Type} (pa : PL) (H : Hp) (r : R α) (Q : α → Hp → Prop) : Prop := match r with
  | .ok d P' => ∀ H', HExt pa H H' → PenOk pa H' P' → Q d H'
  | .ex c P' => ∀ H', HExt pa H H' → PenOk pa H' P' → Ex c H'
  | .no => False
def Sd (kd : Kd) (t : TE) (f : Env → M D) : Prop := ∀ W A σ H env P Q, EOk K W A σ H env P → PostG Ex W.pa H (f env P) (fun d H' => ∀ v, rel K W.pa A H H' d v kd → Q v H') → t σ H Q
def SdT (t : TT) (f : Env → M Bool) : Prop := ∀ W A σ H env P Q, EOk K W A σ H env P → PostG Ex W.pa H (f env P) Q → t σ H Q
def SdA (t : L2.TA) (f : Env → M (List D)) : Prop := ∀ W A σ H env P Q, EOk K W A σ H env P → PostG Ex W.pa H (f env P) (fun ds H' => ∀ vs, Reps K A H' ds vs → Q vs H') → t σ H Q
end
/-- an expression; a test; arguments -/
def XE (Ex : Str → Hp → Prop) (X : Cx) (kd : Kd) (e : Expr) (f : Env → M D) : Prop := ∃ t, PE X e t ∧ Sd X.K Ex kd t f
def XT (Ex : Str → Hp → Prop) (X : Cx) (e : Expr) (f : Env → M Bool) : Prop := ∃ t, PT X e t ∧ SdT X.K Ex t f
def XA (Ex : Str → Hp → Prop) (X : Cx) (es : List Expr) (f : Env → M (List D)) : Prop := ∃ t, PA X es t ∧ SdA X.K Ex t f

section
variable {K : PySem.W.Frag} {Ex : Str → Hp → Prop} {X : Cx} {e : Expr} {f : Env → M D} {pa : PL} {H : Hp}
theorem PostG.mono {α : Type} {r : R α} {Q Q' : α → Hp → Prop} (h : PostG Ex pa H r Q) (hq : ∀ a P' H', HExt pa H H' → PenOk pa H' P' → Q a H' → Q' a H') : PostG Ex pa H r Q' := by
  cases r with
  | ok d P' => exact fun H' e p => hq d P' H' e p (h H' e p)
  | ex c P' => exact h
  | no => exact h
/-- one step, then the rest: with what is known between -/
theorem PostG.bnd {α β : Type} {W : Wd} {A : AS} {σ : L2.St} {env : Env} {P : Pen} {m : M α} {g : α → M β} {Q : β → Hp → Prop} (k : EOk K W A σ H env P) (h : PostG Ex W.pa H (bnd m g P) Q) :
    PostG Ex W.pa H (m P) (fun a H1 => ∃ P1, HExt W.pa H H1 ∧ PenOk W.pa H1 P1 ∧ EOk K W A σ H1 env P1 ∧ PostG Ex W.pa H1 (g a P1) (fun b H2 => HExt W.pa H H2 → Q b H2)) := by
  unfold Vl.bnd at h
  cases hm : m P with
  | ok a P1 =>
    rw [hm] at h
    intro H1 e1 p1
    refine ⟨P1, e1, p1, k.ext e1 p1, ?_⟩
    change PostG Ex W.pa H (g a P1) Q at h
    cases hg : g a P1 with
    | ok b P2 => rw [hg] at h; exact fun H2 e2 p2 _ => h H2 (e1.trans e2) p2
    | ex c P2 => rw [hg] at h; exact fun H2 e2 p2 => h H2 (e1.trans e2) p2
    | no => rw [hg] at h; exact h
  | ex c P1 => rw [hm] at h; exact h
  | no => rw [hm] at h; exact h
theorem Rep.b {A : AS} {σ : L2.St} {W : Wd} {env : Env} {P : Pen} {d : D} {v : V} (k : EOk K W A σ H env P) (r : Rep K A H d v) : RepB K W.pa A H d v := by
  cases d with
  | list ds =>
    obtain ⟨a, vs, e, l, q⟩ := r
    exact ⟨a, vs, e, ⟨l.1, fun ⟨c, y⟩ => l.2 (k.penA _ _ y).1⟩, q⟩
  | _ => exact r
theorem RepB.ext {A : AS} {σ : L2.St} {W : Wd} {env : Env} {P : Pen} {H' : Hp} {d : D} {v : V} (k : EOk K W A σ H env P) (e : HExt W.pa H H') (r : RepB K W.pa A H d v) : RepB K W.pa A H' d v := by
  cases d with
  | list ds =>
    obtain ⟨a, vs, e1, l, q⟩ := r
    exact ⟨a, vs, e1, ⟨e.at l.1 l.2, l.2⟩, k.reps e q⟩
  | _ => exact k.rep e r
theorem rel_v {A : AS} {σ : L2.St} {W : Wd} {env : Env} {P : Pen} {H' : Hp} {d : D} {v : V} (k : EOk K W A σ H env P) (r : rel K W.pa A H H' d v .f) : Rep K A H' d v := by
  obtain ⟨a, vs, ds, rfl, rfl, n, h, q⟩ := r
  refine ⟨a, vs, rfl, ⟨h, fun z => ?_⟩, Reps.mono (fun b u e _ n => ⟨e, fun z => n (.inl z)⟩) _ _ q⟩
  obtain ⟨o, ho, ht⟩ := k.trk a z
  exact n o ho ht
theorem XE.v (h : XE Ex X .f e f) : XE Ex X .v e f := by
  obtain ⟨t, ht, q⟩ := h
  exact ⟨t, ht, fun W A σ H env P Q k p => q W A σ H env P Q k (p.mono fun d P' H' _ _ z v r => z v (rel_v k r))⟩
theorem XE.b (h : XE Ex X .v e f) : XE Ex X .b e f := by
  obtain ⟨t, ht, q⟩ := h
  exact ⟨t, ht, fun W A σ H env P Q k p => q W A σ H env P Q k (p.mono fun d P' H' e' p' z v r => z v (Rep.b (k.ext e' p') r))⟩
theorem XE.fb (h : XE Ex X .f e f) : XE Ex X .b e f := h.v.b
end
end Vl
end
section
set_option autoImplicit false
set_option maxRecDepth 100000
/-! V2: expressions. -/
namespace Vl
open PySem L2

theorem same_upd {H : Hp} {p : Addr} {o : HO} (h : H p = none) : Same H (upd H p o) := fun b x => fun e => by
  rw [upd_ne (ne_of_none e h)]
  exact e
theorem line_le {n : Nat} (h : n ≤ 16777216) : n ≤ sizeLine := by rw [sizeLine_eq]; exact h

section
variable {Ex : Str → Hp → Prop} {X : Cx} {W : Wd} {A : AS} {σ : L2.St} {H H' : Hp} {env : Env} {P P' : Pen} {K : PySem.W.Frag}
theorem EOk.newN (k : EOk K W A σ H env P) {p : Addr} (hp : New H p) : ¬ A p := fun z => by
  obtain ⟨o, ho, ht⟩ := k.trk p z
  exact hp o ho ht
theorem EOk.new (k : EOk K W A σ H env P) {p : Addr} (hp : H p = none) : ¬ A p := k.newN (.of hp)
theorem EOk.stayS (k : EOk K W A σ H env P) (s : Same H H') : EOk K W A σ H' env P := k.ext (HExt.of s) (penOk_same s k.pen)
theorem EOk.repN (k : EOk K W A σ H env P) (s : Same H H') {d : D} {v : V} (r : Rep K A H d v) : Rep K A H' d v := k.rep (HExt.of s) r
theorem EOk.repsN (k : EOk K W A σ H env P) (s : Same H H') {d : List D} {v : List V} (r : Reps K A H d v) : Reps K A H' d v := k.reps (HExt.of s) r
theorem EOk.repsO (k : EOk K W A σ H env P) {p : Addr} {o : HO} (hp : H p = none) {d : List D} {v : List V} (r : Reps K A H d v) : Reps K (ad A p) (upd H p o) d v := Reps.mono (fun b u e _ n => ⟨same_upd hp b u e, fun z => z.elim n fun z => by
  subst z
  rw [hp] at e; cases e⟩) _ _ r
/-- a new plain tuple of contents -/
theorem nT_rep (k : EOk K W A σ H env P) {ds : List D} {vs : List V} {Q : VK} (r : Reps K A H ds vs) (q : ∀ v H', Same H H' → Rep K A H' (.tuple ds) v → Q v H') : nT vs H Q := fun p o hp hd =>
  have s := same_upd (o := .frz o (.tup vs)) hp
  q _ _ s ⟨p, vs, rfl, .inl ⟨o, upd_same, hd, k.new hp⟩, k.repsN s r⟩
/-- what is in a slot -/
theorem EOk.at (k : EOk K W A σ H env P) {i : Nat} {s : SV} (h : env[i]? = some s) : ∃ o, σ[i]? = some o ∧ SlotOk K W.pa A H o s := by
  have hi : i < σ.length := by rw [k.len]; exact (List.getElem?_eq_some_iff.mp h).1
  exact ⟨σ[i], List.getElem?_eq_getElem hi, k.slot i _ s (List.getElem?_eq_getElem hi) h⟩
theorem post_ret {α : Type} {a : α} {pa : PL} {Q : α → Hp → Prop} (h : PostG Ex pa H (ret a P) Q) (s : Same H H') (p : PenOk pa H P) : Q a H' := h H' (HExt.of s) (penOk_same s p)
theorem post_here {α : Type} {a : α} {pa : PL} {Q : α → Hp → Prop} (h : PostG Ex pa H (ret a P) Q) (p : PenOk pa H P) : Q a H := h H (HExt.refl _ _) p
theorem post_orNo {α : Type} {a : Option α} {pa : PL} {Q : α → Hp → Prop} (h : PostG Ex pa H (orNo a P) Q) : ∃ d, a = some d ∧ PostG Ex pa H (ret d P) Q := by
  cases a with
  | some d => exact ⟨d, rfl, h⟩
  | none => exact h.elim
end

/-! ### names, constants -/
def dVar (i : Nat) : Env → M D := fun env => match env[i]? with
  | some (.v d) => ret d
  | _ => no
def bVar (i : Nat) : Env → M D := fun env => match env[i]? with
  | some (.v d) => ret d
  | some (.own ds) => ret (.list ds)
  | _ => no
def dC (d : D) : Env → M D := fun _ => ret d

section
variable {Ex : Str → Hp → Prop} {X : Cx} {pos : Pos} {x : Str}
theorem xv_sd {i : Nat} {K : PySem.W.Frag} : Sd K Ex .v (tVar i) (dVar i) := fun W A σ H env P Q k p => by
  unfold dVar at p
  cases h : env[i]? with
  | none => rw [h] at p; exact p.elim
  | some s =>
    rw [h] at p
    cases s with
    | v d =>
      obtain ⟨o, e, x, rfl, r⟩ := k.at h
      exact ⟨x, e, post_here p k.pen x r⟩
    | un => exact p.elim
    | own ds => exact p.elim
    | pen => exact p.elim
    | scr _ => exact p.elim
theorem xb_sd {i : Nat} {K : PySem.W.Frag} : Sd K Ex .b (tVar i) (bVar i) := fun W A σ H env P Q k p => by
  unfold bVar at p
  cases h : env[i]? with
  | none => rw [h] at p; exact p.elim
  | some s =>
    rw [h] at p
    cases s with
    | v d =>
      obtain ⟨o, e, x, rfl, r⟩ := k.at h
      exact ⟨x, e, post_here p k.pen x (Rep.b k r)⟩
    | own ds =>
      obtain ⟨o, e, a, vs, rfl, ha, np, hl, r⟩ := k.at h
      exact ⟨.ref a, e, post_here p k.pen (.ref a) ⟨a, vs, rfl, ⟨hl, fun ⟨c, z⟩ => (np _ _ z).1 rfl⟩, r⟩⟩
    | un => exact p.elim
    | pen => exact p.elim
    | scr _ => exact p.elim
theorem xv (i : Nat) (hN : X.N[i]? = some x := by rfl) (hv : Vis X.env.scope x := by first | exact Or.inl rfl | exact Or.inr (Or.inl rfl) | exact Or.inr (Or.inr rfl)) (hd : (x == ("__debug__" : Str)) = false := by decide)
    (hcd : (x == ("__classdict__" : Str)) = false := by decide) : XE Ex X .v (.Name x pos) (dVar i) := ⟨_, pe_var hN hv hd hcd, xv_sd⟩
theorem xb (i : Nat) (hN : X.N[i]? = some x := by rfl) (hv : Vis X.env.scope x := by first | exact Or.inl rfl | exact Or.inr (Or.inl rfl) | exact Or.inr (Or.inr rfl)) (hd : (x == ("__debug__" : Str)) = false := by decide)
    (hcd : (x == ("__classdict__" : Str)) = false := by decide) : XE Ex X .b (.Name x pos) (bVar i) := ⟨_, pe_var hN hv hd hcd, xb_sd⟩
theorem xc_sd {d : D} {v : V} {K : PySem.W.Frag} (h : ∀ A H, Rep K A H d v) : Sd K Ex .v (tC v) (dC d) := fun W A σ H env P Q k p => post_here p k.pen v (h A H)
theorem x_int {i : Int} {j} : XE Ex X .v (.Constant (.int i) j pos) (dC (.int i)) := ⟨_, pe_int, xc_sd fun _ _ => rfl⟩
theorem x_bl {b : Bool} {j} : XE Ex X .v (.Constant (.bool b) j pos) (dC (.bool b)) := ⟨_, pe_bl, xc_sd fun _ _ => rfl⟩
theorem x_non {j} : XE Ex X .v (.Constant .none j pos) (dC .none) := ⟨_, pe_non, xc_sd fun _ _ => rfl⟩
theorem x_str {s : Str} {j} : XE Ex X .v (.Constant (.str s) j pos) (dC (.str s)) := ⟨_, pe_str, xc_sd fun _ _ => rfl⟩
/-- a constant of the module -/
theorem x_glob {d : D} {v : V} {u : Value} (hm : X.mg x = some u) (r : RelV v u) (h : ∀ A H, Rep X.K A H d v) (hg : Gl X x := by rfl) (hd : (x == ("__debug__" : Str)) = false := by decide) : XE Ex X .v (.Name x pos) (dC d) := ⟨_, pe_glob hg hm r hd, xc_sd h⟩
end

/-! ### arguments, displays -/
def aNil : Env → M (List D) := fun _ => ret []
def aCons (f : Env → M D) (g : Env → M (List D)) : Env → M (List D) := fun env => bnd (f env) fun d => bnd (g env) fun ds => ret (d :: ds)
def dTup (f : Env → M (List D)) : Env → M D := fun env => bnd (f env) fun ds => if ds.length ≤ 16777216 then ret (.tuple ds) else no
def dLst (f : Env → M (List D)) : Env → M D := fun env => bnd (f env) fun ds => if ds.length ≤ 16777216 then ret (.list ds) else no
section
variable {Ex : Str → Hp → Prop} {X : Cx} {pos : Pos} {e : Expr} {es : List Expr} {f : Env → M D} {g : Env → M (List D)}
theorem xa_nil : XA Ex X [] aNil := ⟨_, pa_nil, fun W A σ H env P Q k p => post_here p k.pen [] rfl⟩
theorem xa_cons (h : XE Ex X .v e f) (h2 : XA Ex X es g) (hs : starEach (e :: es) X.env = (false, eval e X.env) :: starEach es X.env := by rfl) : XA Ex X (e :: es) (aCons f g) := by
  obtain ⟨t, ht, q⟩ := h
  obtain ⟨u, hu, q2⟩ := h2
  refine ⟨_, pa_cons ht hu hs, fun W A σ H env P Q k p => ?_⟩
  refine q W A σ H env P _ k ((PostG.bnd k p).mono ?_)
  rintro d _ H1 _ _ ⟨P1, e1, p1, k1, post⟩ v r
  refine q2 W A σ H1 env P1 _ k1 ((PostG.bnd k1 post).mono ?_)
  rintro ds _ H2 _ _ ⟨P2, e2, p2, k2, post2⟩ vs rs
  exact post_here post2 p2 e2 (e1.trans e2) (v :: vs) ⟨v, vs, rfl, k1.rep e2 r, rs⟩
theorem x_tup {c} (h : XA Ex X es g) : XE Ex X .v (.Tuple es c pos) (dTup g) := by
  obtain ⟨t, ht, q⟩ := h
  refine ⟨_, pe_tupF ht, fun W A σ H env P Q k p => ?_⟩
  refine q W A σ H env P _ k ((PostG.bnd k p).mono ?_)
  rintro ds _ H1 _ _ ⟨P1, e1, p1, k1, post⟩ vs r
  by_cases hl : ds.length ≤ 16777216
  · rw [if_pos hl] at post
    exact ⟨line_le (by rw [r.length]; exact hl), nT_rep k1 r fun v H2 s rv => post_ret post s p1 (e1.trans (HExt.of s)) v rv⟩
  · rw [if_neg hl] at post; exact post.elim
theorem x_lst (h : XA Ex X es g) : XE Ex X .f (.List es pos) (dLst g) := by
  obtain ⟨t, ht, q⟩ := h
  refine ⟨_, pe_lst ht, fun W A σ H env P Q k p => ?_⟩
  refine q W A σ H env P _ k ((PostG.bnd k p).mono ?_)
  rintro ds _ H1 _ _ ⟨P1, e1, p1, k1, post⟩ vs r
  by_cases hl : ds.length ≤ 16777216
  · rw [if_pos hl] at post
    refine ⟨line_le (by rw [r.length]; exact hl), fun a ha => ?_⟩
    have s := same_upd (o := .lst vs) ha
    exact post_ret post s p1 (e1.trans (HExt.of s)) (.ref a) ⟨a, vs, ds, rfl, rfl, fresh_back k.pen e1 p1 (.of ha), upd_same, k1.repsO ha r⟩
  · rw [if_neg hl] at post; exact post.elim
end

/-! ### operations on values -/
/-- a two-place operation: what r asks of two values is met where g tells an answer -/
def OpD (K : PySem.W.Frag) (kd : Kd) (r : R2) (g : D → D → Option D) : Prop := ∀ (W : Wd) (A : AS) (σ : L2.St) (H : Hp) (env : Env) (P : Pen) (x y : V) (dx dy d : D) (Q : VK), EOk K W A σ H env P → RepB K W.pa A H dx x → RepB K W.pa A H dy y → g dx dy = some d →
  (∀ v H', Same H H' → rel K W.pa A H H' d v kd → Q v H') → r x y H Q
def d2 (g : D → D → Option D) (f1 f2 : Env → M D) : Env → M D := fun env => bnd (f1 env) fun x => bnd (f2 env) fun y => orNo (g x y)
section
variable {Ex : Str → Hp → Prop} {X : Cx} {pos : Pos} {a b c : Expr} {fa fb fc : Env → M D} {kd : Kd}
theorem sd_op {K : PySem.W.Frag} {r : R2} {g : D → D → Option D} (hr : OpD K kd r g) {ta tb : TE} (ha : Sd K Ex .b ta fa) (hb : Sd K Ex .b tb fb) : Sd K Ex kd (tOp r ta tb) (d2 g fa fb) := fun W A σ H env P Q k p => by
  refine ha W A σ H env P _ k ((PostG.bnd k p).mono ?_)
  rintro dx _ H1 _ _ ⟨P1, e1, p1, k1, post⟩ x rx
  refine hb W A σ H1 env P1 _ k1 ((PostG.bnd k1 post).mono ?_)
  rintro dy _ H2 _ _ ⟨P2, e2, p2, k2, post2⟩ y ry
  obtain ⟨d, hd, post3⟩ := post_orNo post2
  refine hr W A σ H2 env P2 x y dx dy d Q k2 (RepB.ext k1 e2 rx) ry hd fun v H3 s hv => ?_
  exact post_ret post3 s p2 (e2.trans (HExt.of s)) (e1.trans (e2.trans (HExt.of s))) v (rel_back k.pen (e1.trans e2) p2 hv)
theorem x_op {op : Operator} {r : R2} {g : D → D → Option D} (ho : OpR X (binaryOp op) r) (hr : OpD X.K kd r g) (ha : XE Ex X .b a fa) (hb : XE Ex X .b b fb) : XE Ex X kd (.BinOp a op b pos) (d2 g fa fb) := by
  obtain ⟨ta, ha, qa⟩ := ha
  obtain ⟨tb, hb, qb⟩ := hb
  exact ⟨_, pe_op ho ha hb, sd_op hr qa qb⟩
theorem x_cmp {op : CmpOp} {r : R2} {g : D → D → Option D} (ho : OpR X (compareOp op) r) (hr : OpD X.K .v r g) (ha : XE Ex X .b a fa) (hb : XE Ex X .b b fb) (hm : behindInMarks op b = false) : XE Ex X .v (.Compare a [op] [b] pos) (d2 g fa fb) := by
  obtain ⟨ta, ha, qa⟩ := ha
  obtain ⟨tb, hb, qb⟩ := hb
  exact ⟨_, pe_cmpR ho ha hb hm, sd_op hr qa qb⟩
/-- a test that is a value's -/
def tV (f : Env → M D) : Env → M Bool := fun env => bnd (f env) fun
  | .bool b => ret b
  | _ => no
theorem sdT_test {K : PySem.W.Frag} {t : TE} (h : Sd K Ex .v t fa) : SdT K Ex (tTest t) (tV fa) := fun W A σ H env P Q k p => by
  refine h W A σ H env P _ k ((PostG.bnd k p).mono ?_)
  rintro d _ H1 _ _ ⟨P1, e1, p1, k1, post⟩ x r
  cases d with
  | bool b => exact ⟨b, r, post_here post p1 e1⟩
  | _ => exact post.elim
theorem xt_cmp {op : CmpOp} {r : R2} {g : D → D → Option D} (ho : OpR X (compareOp op) r) (hr : OpD X.K .v r g) (ha : XE Ex X .b a fa) (hb : XE Ex X .b b fb) (hm : behindInMarks op b = false) : XT Ex X (.Compare a [op] [b] pos) (tV (d2 g fa fb)) := by
  obtain ⟨ta, ha, qa⟩ := ha
  obtain ⟨tb, hb, qb⟩ := hb
  exact ⟨_, pt_cmpR ho ha hb hm, sdT_test (sd_op hr qa qb)⟩
end
end Vl
end
section
set_option autoImplicit false
set_option maxRecDepth 100000
/-! V3: the operations. -/
namespace Vl
open PySem L2

mutual
theorem Rep.dp {K : PySem.W.Frag} {A : AS} {H : Hp} : ∀ (d : D) (v : V), d.hasDict = false → Rep K A H d v → Dp K H v d
  | .none, _, _, h => by rw [show _ = V.non from h]; exact .non
  | .bool b, _, _, h => by rw [show _ = V.bl b from h]; exact .bl b
  | .int b, _, _, h => by rw [show _ = V.int b from h]; exact .int b
  | .str b, _, _, h => by rw [show _ = V.str b from h]; exact .str b
  | .list ds, _, n, ⟨a, vs, e, l, r⟩ => by rw [e]; exact .lst l.sq (Reps.dp ds vs n r)
  | .tuple ds, _, n, ⟨a, vs, e, l, r⟩ => by rw [e]; exact .tup l.sq (Reps.dp ds vs n r)
  | .dict _, _, n, h => by cases n
theorem Reps.dp {K : PySem.W.Frag} {A : AS} {H : Hp} : ∀ (ds : List D) (vs : List V), PyData.hasDictAll ds = false → Reps K A H ds vs → DpAll K H vs ds
  | [], _, _, h => by rw [show _ = [] from h]; exact .nil
  | d :: ds, _, n, ⟨v, r, e, h1, h2⟩ => by
    rw [e]
    have n' := Bool.or_eq_false_iff.mp (show (d.hasDict || PyData.hasDictAll ds) = false from n)
    exact .cons (Rep.dp d v n'.1 h1) (Reps.dp ds r n'.2 h2)
end
theorem RepB.dp {K : PySem.W.Frag} {pa : PL} {A : AS} {H : Hp} {d : D} {v : V} (h : RepB K pa A H d v) (n : d.hasDict = false) : Dp K H v d := by
  cases d with
  | list ds => obtain ⟨a, vs, rfl, l, r⟩ := h; exact .lst l.sq (Reps.dp ds vs n r)
  | _ => exact Rep.dp (A := A) _ _ n h
theorem shaped_nd {d : D} (h : SeqAt.shaped d = true) : d.hasDict = false := PyData.hasDict_of_canLay d (SeqAt.canLay_of_shaped h)

def lim : Nat := 16777216
def guardD (c : Bool) (d : D) : Option D := if c then some d else none
theorem guardD_some {c : Bool} {d e : D} (h : guardD c d = some e) : c = true ∧ d = e := by
  unfold guardD at h
  cases c with
  | true => exact ⟨rfl, Option.some.inj h⟩
  | false => cases h

def dAdd : D → D → Option D
  | .int i, .int j => some (.int (i + j))
  | .str a, .str b => guardD (decide (a.length + b.length ≤ 16777216)) (.str (a ++ b))
  | .tuple a, .tuple b => guardD (decide (a.length + b.length ≤ 16777216)) (.tuple (a ++ b))
  | .list a, .list b => guardD (decide (a.length + b.length ≤ 16777216)) (.list (a ++ b))
  | _, _ => none
def dCat : D → D → Option D
  | .list a, .list b => guardD (decide (a.length + b.length ≤ 16777216)) (.list (a ++ b))
  | _, _ => none
def dSub : D → D → Option D
  | .int i, .int j => some (.int (i - j))
  | _, _ => none
def dMul : D → D → Option D
  | .int i, .int j => guardD (decide ((-(2 ^ 64) < i ∧ i < 2 ^ 64) ∨ (-(2 ^ 64) < j ∧ j < 2 ^ 64))) (.int (i * j))
  | .str a, .int j => guardD (decide (0 ≤ j ∧ j ≤ 16777216 ∧ a.length * j.toNat ≤ 16777216)) (.str (Txt.mul a j))
  | .list xs, .int k => guardD (decide (-(2 ^ 63) ≤ k ∧ k < 2 ^ 63 ∧ xs.length * k.toNat ≤ 16777216)) (.list (List.replicate k.toNat xs).flatten)
  | .tuple xs, .int k => guardD (decide (-(2 ^ 63) ≤ k ∧ k < 2 ^ 63 ∧ xs.length * k.toNat ≤ 1000000)) (.tuple (List.replicate k.toNat xs).flatten)
  | _, _ => none
def dRep : D → D → Option D
  | .list xs, .int k => guardD (decide (-(2 ^ 63) ≤ k ∧ k < 2 ^ 63 ∧ xs.length * k.toNat ≤ 16777216)) (.list (List.replicate k.toNat xs).flatten)
  | _, _ => none
def dMod : D → D → Option D
  | .int i, .int j => guardD (decide (0 < j)) (.int (i % j))
  | _, _ => none
def dDiv : D → D → Option D
  | .int i, .int j => guardD (decide (0 < j ∧ j < 1073741824)) (.int (i / j))
  | _, _ => none
def dPow : D → D → Option D
  | .int i, .int j => guardD (decide (0 ≤ j ∧ j ≤ 1000000 ∧ i.natAbs < 2 ^ 64)) (.int (i ^ j.toNat))
  | _, _ => none
def dEq (x y : D) : Option D := guardD (SeqAt.shaped x && SeqAt.shaped y) (.bool (PyData.eqv x y))
def dNe (x y : D) : Option D := guardD (SeqAt.shaped x && SeqAt.shaped y) (.bool (!PyData.eqv x y))
def dLt : D → D → Option D
  | .int i, .int j => some (.bool (decide (i < j)))
  | .str a, .str b => some (.bool (decide (a.cps.toList < b.cps.toList)))
  | _, _ => none
def dLe : D → D → Option D
  | .int i, .int j => some (.bool (decide (i ≤ j)))
  | .str a, .str b => some (.bool (!decide (b.cps.toList < a.cps.toList)))
  | _, _ => none
def dGt (x y : D) : Option D := dLt y x
def dGe (x y : D) : Option D := dLe y x
def flatD : D → Bool
  | .bool _ | .none | .int _ | .str _ => true
  | _ => false
def dIn : D → D → Option D
  | .str a, .str b => some (.bool (!(Builtin.Str.occurrences b a 0 b.length 1).isEmpty))
  | x, .list ds => guardD (SeqAt.shaped x && SeqAt.shaped (.list ds)) (.bool (ds.any fun z => PyData.eqv z x))
  | x, .tuple ds => guardD (flatD x && ds.all flatD) (.bool (ds.any fun z => PyData.eqv z x))
  | _, _ => none
def notD : Option D → Option D
  | some (.bool c) => some (.bool (!c))
  | _ => none
def dNotIn (x y : D) : Option D := notD (dIn x y)
def isNoneD : D → Bool
  | .none => true
  | _ => false
def dIsNone : D → D → Option D
  | x, .none => some (.bool (isNoneD x))
  | .bool a, .bool b => some (.bool (decide (a = b)))
  | _, _ => none
def dIsNotNone (x y : D) : Option D := notD (dIsNone x y)

theorem OpD.or {K : PySem.W.Frag} {kd : Kd} {r r' : R2} {g : D → D → Option D}
    (h : ∀ (W : Wd) (A : AS) (σ : L2.St) (H : Hp) (env : Env) (P : Pen) (x y : V) (dx dy d : D) (Q : VK), EOk K W A σ H env P → RepB K W.pa A H dx x → RepB K W.pa A H dy y → g dx dy = some d →
      (∀ v H', Same H H' → rel K W.pa A H H' d v kd → Q v H') → r x y H Q ∨ r' x y H Q) : OpD K kd (fun x y H Q => r x y H Q ∨ r' x y H Q) g := h

section
variable {X : Cx} {K : PySem.W.Frag}
theorem str_of_RepB {pa : PL} {A : AS} {H : Hp} {s : Str} {v : V} (h : RepB K pa A H (.str s) v) : v = .str s := h
/-- + -/
theorem or_add : OpR X (binaryOp .Add) (fun x y H Q => (rI0 (fun i j => .int (i + j)) x y H Q) ∨ ((∃ i j, x = .str i ∧ y = .str j ∧ i.length + j.length ≤ sizeLine ∧ Q (.str (i ++ j)) H) ∨ (rCatF X.K x y H Q ∨ rCat x y H Q))) :=
  op_add.or (op_add_str.or (op_catF.or op_cat))
theorem od_add : OpD K .v (fun x y H Q => (rI0 (fun i j => .int (i + j)) x y H Q) ∨ ((∃ i j, x = .str i ∧ y = .str j ∧ i.length + j.length ≤ sizeLine ∧ Q (.str (i ++ j)) H) ∨ (rCatF K x y H Q ∨ rCat x y H Q))) dAdd := by
  intro W A σ H env P x y dx dy d Q k rx ry hg q
  cases dx with
  | int i =>
    cases dy with
    | int j =>
      cases hg
      exact .inl ⟨i, j, rx, ry, q _ H (Same.refl H) rfl⟩
    | _ => cases hg
  | str a =>
    cases dy with
    | str b =>
      obtain ⟨h, rfl⟩ := guardD_some hg
      exact .inr (.inl ⟨a, b, rx, ry, line_le (of_decide_eq_true h), q _ H (Same.refl H) rfl⟩)
    | _ => cases hg
  | tuple xs =>
    cases dy with
    | tuple ys =>
      obtain ⟨h, rfl⟩ := guardD_some hg
      have h := of_decide_eq_true h
      obtain ⟨a, vs, rfl, l, r⟩ := rx
      obtain ⟨b, us, rfl, l2, r2⟩ := ry
      refine .inr (.inr (.inl ⟨a, b, vs, us, rfl, rfl, l.sq, l2.sq, line_le (by rw [r.length, r2.length]; exact h), fun e => ?_, fun e1 e2 => ?_, fun _ _ => ?_⟩))
      · subst e
        have : xs = [] := by
          have := r.length
          exact List.length_eq_zero_iff.mp this.symm
        subst this
        exact q _ H (Same.refl H) ⟨b, us, rfl, l2, r2⟩
      · subst e2
        have : ys = [] := by
          have := r2.length
          exact List.length_eq_zero_iff.mp this.symm
        subst this
        exact q _ H (Same.refl H) ⟨a, vs, rfl, l, by rw [List.append_nil]; exact r⟩
      · exact nT_rep k (r.append r2) q
    | _ => cases hg
  | list xs =>
    cases dy with
    | list ys =>
      obtain ⟨h, rfl⟩ := guardD_some hg
      have h := of_decide_eq_true h
      obtain ⟨a, vs, rfl, l, r⟩ := rx
      obtain ⟨b, us, rfl, l2, r2⟩ := ry
      refine .inr (.inr (.inr ⟨a, b, vs, us, rfl, rfl, l.1, l2.1, line_le (by rw [r.length, r2.length]; exact h), fun p hp => ?_⟩))
      have s := same_upd (o := .lst (vs ++ us)) hp
      exact q _ _ s ⟨p, vs ++ us, rfl, ⟨upd_same, k.new hp⟩, k.repsN s (r.append r2)⟩
    | _ => cases hg
  | _ => cases hg
theorem od_cat : OpD K .f rCat dCat := by
  intro W A σ H env P x y dx dy d Q k rx ry hg q
  cases dx with
  | list xs =>
    cases dy with
    | list ys =>
      obtain ⟨h, rfl⟩ := guardD_some hg
      have h := of_decide_eq_true h
      obtain ⟨a, vs, rfl, l, r⟩ := rx
      obtain ⟨b, us, rfl, l2, r2⟩ := ry
      refine ⟨a, b, vs, us, rfl, rfl, l.1, l2.1, line_le (by rw [r.length, r2.length]; exact h), fun p hp => ?_⟩
      have s := same_upd (o := .lst (vs ++ us)) hp
      exact q _ _ s ⟨p, vs ++ us, _, rfl, rfl, .of hp, upd_same, k.repsO hp (r.append r2)⟩
    | _ => cases hg
  | _ => cases hg
theorem od_int {g : D → D → Option D} {r : R2} {C : Int → Int → Prop} {f : Int → Int → V}
    (hr : ∀ i j H Q, C i j → Q (f i j) H → r (.int i) (.int j) H Q)
    (hg : ∀ dx dy d, g dx dy = some d → ∃ i j, dx = .int i ∧ dy = .int j ∧ C i j ∧ ∀ A H, Rep K A H d (f i j)) : OpD K .v r g := by
  intro W A σ H env P x y dx dy d Q k rx ry h q
  obtain ⟨i, j, rfl, rfl, hc, hd⟩ := hg dx dy d h
  cases (show x = .int i from rx)
  cases (show y = .int j from ry)
  exact hr i j H Q hc (q _ H (Same.refl H) (hd A H))
theorem od_sub : OpD K .v (rI0 fun i j => .int (i - j)) dSub := od_int (C := fun _ _ => True) (f := fun i j => .int (i - j)) (fun i j H Q _ q => ⟨i, j, rfl, rfl, q⟩) fun dx dy d h => by
  cases dx with
  | int i => cases dy with
    | int j => cases h; exact ⟨i, j, rfl, rfl, trivial, fun _ _ => rfl⟩
    | _ => cases h
  | _ => cases h
theorem od_mod : OpD K .v (rI (fun _ j => 0 < j) fun i j => .int (i % j)) dMod := od_int (C := fun _ j => 0 < j) (f := fun i j => .int (i % j)) (fun i j H Q c q => ⟨i, j, rfl, rfl, c, q⟩) fun dx dy d h => by
  cases dx with
  | int i => cases dy with
    | int j => obtain ⟨c, rfl⟩ := guardD_some h; exact ⟨i, j, rfl, rfl, of_decide_eq_true c, fun _ _ => rfl⟩
    | _ => cases h
  | _ => cases h
theorem od_div : OpD K .v (rI CDiv fun i j => .int (i / j)) dDiv := od_int (C := CDiv) (f := fun i j => .int (i / j)) (fun i j H Q c q => ⟨i, j, rfl, rfl, c, q⟩) fun dx dy d h => by
  cases dx with
  | int i => cases dy with
    | int j => obtain ⟨c, rfl⟩ := guardD_some h; exact ⟨i, j, rfl, rfl, of_decide_eq_true (p := 0 < j ∧ j < 1073741824) c, fun _ _ => rfl⟩
    | _ => cases h
  | _ => cases h
theorem od_pow : OpD K .v (rI CPow fun i j => .int (i ^ j.toNat)) dPow := od_int (C := CPow) (f := fun i j => .int (i ^ j.toNat)) (fun i j H Q c q => ⟨i, j, rfl, rfl, c, q⟩) fun dx dy d h => by
  cases dx with
  | int i => cases dy with
    | int j => obtain ⟨c, rfl⟩ := guardD_some h; exact ⟨i, j, rfl, rfl, of_decide_eq_true (p := 0 ≤ j ∧ j ≤ 1000000 ∧ i.natAbs < 2 ^ 64) c, fun _ _ => rfl⟩
    | _ => cases h
  | _ => cases h
/-- * -/
def rMulS : R2 := fun x y H Q => ∃ z n, x = .str z ∧ y = .int n ∧ 0 ≤ n ∧ n ≤ 16777216 ∧ z.length * n.toNat ≤ 16777216 ∧ Q (.str (Txt.mul z n)) H
theorem op_mulS : OpR X (binaryOp .Mult) rMulS := by
  intro pins s σ H x y; intro v u Q I rx ry h
  obtain ⟨z, n, rfl, rfl, h0, h1, h2, q⟩ := h
  obtain ⟨t, rfl⟩ := rx
  obtain ⟨t2, rfl⟩ := ry
  refine SB.mul ⟨?_, fun a b c => ?_, fun a b => ?_⟩ fun t' k => ⟨.str (Txt.mul z n), H, I.tok k, ⟨t', rfl⟩, q⟩
  · rw [Bool.or_eq_false_iff]
    exact ⟨decide_eq_false (by omega), decide_eq_false (by omega)⟩
  · have e : (n.toNat : Int) = n := Int.toNat_of_nonneg h0
    have hz : (z.length : Int) * n ≤ 16777216 := by
      rw [← e, ← Int.natCast_mul]
      exact Int.ofNat_le.mpr h2
    have : (z.length : Int) ≤ 16777216 := by
      have : (z.length : Int) * 1 ≤ (z.length : Int) * n := Int.mul_le_mul_of_nonneg_left (by omega) (Int.natCast_nonneg _)
      omega
    have h5 : (16777216 : Int) ≤ (2 ^ 63 - 1) / n := by
      rw [Int.le_ediv_iff_mul_le (by omega)]
      have : (16777216 : Int) * n ≤ 16777216 * 16777216 := Int.mul_le_mul_of_nonneg_left h1 (by decide)
      exact Int.le_trans this (by decide)
    omega
  · refine decide_eq_false ?_
    rw [sizeLine_eq]
    omega
theorem Reps.rep {A : AS} {H : Hp} {ds : List D} {vs : List V} (r : Reps K A H ds vs) : ∀ n : Nat, Reps K A H (List.replicate n ds).flatten (List.replicate n vs).flatten
  | 0 => rfl
  | n + 1 => by
    rw [List.replicate_succ]; rw [List.replicate_succ, List.flatten_cons, List.flatten_cons]
    exact r.append (Reps.rep r n)
theorem or_mul : OpR X (binaryOp .Mult) (fun x y H Q => rI CMul (fun i j => .int (i * j)) x y H Q ∨ (rMulS x y H Q ∨ (rRep x y H Q ∨ rRepF X.K x y H Q))) := op_mul.or (op_mulS.or (op_rep.or op_repF))
theorem od_mul : OpD K .v (fun x y H Q => rI CMul (fun i j => .int (i * j)) x y H Q ∨ (rMulS x y H Q ∨ (rRep x y H Q ∨ rRepF K x y H Q))) dMul := by
  intro W A σ H env P x y dx dy d Q k rx ry hg q
  cases dy with
  | int n =>
    cases (show y = .int n from ry)
    cases dx with
    | int i =>
      obtain ⟨h, rfl⟩ := guardD_some hg
      exact .inl ⟨i, n, rx, rfl, of_decide_eq_true (p := (-(2 ^ 64) < i ∧ i < 2 ^ 64) ∨ (-(2 ^ 64) < n ∧ n < 2 ^ 64)) h, q _ H (Same.refl H) rfl⟩
    | str z =>
      obtain ⟨h, rfl⟩ := guardD_some hg
      have h := of_decide_eq_true h
      exact .inr (.inl ⟨z, n, rx, rfl, h.1, h.2.1, h.2.2, q _ H (Same.refl H) rfl⟩)
    | list xs =>
      obtain ⟨h, rfl⟩ := guardD_some hg
      have h := of_decide_eq_true h
      obtain ⟨a, vs, rfl, l, r⟩ := rx
      refine .inr (.inr (.inl ⟨a, n, vs, rfl, rfl, l.1, h.1, h.2.1, line_le (by rw [r.length]; exact h.2.2), fun p hp => ?_⟩))
      have s := same_upd (o := .lst (List.replicate n.toNat vs).flatten) hp
      exact q _ _ s ⟨p, _, rfl, ⟨upd_same, k.new hp⟩, k.repsN s (Reps.rep r _)⟩
    | tuple xs =>
      obtain ⟨h, rfl⟩ := guardD_some hg
      have h := of_decide_eq_true h
      obtain ⟨a, vs, rfl, l, r⟩ := rx
      refine .inr (.inr (.inr ⟨a, n, vs, rfl, rfl, l.sq, h.1, h.2.1, by rw [r.length]; exact h.2.2, fun z => ?_, fun _ z => ?_, fun _ _ => nT_rep k (Reps.rep r _) q⟩))
      · have e : (List.replicate n.toNat xs).flatten = xs := by
          rcases z with z | z
          · subst z
            have : xs = [] := List.length_eq_zero_iff.mp r.length.symm
            subst this
            simp
          · subst z
            simp
        refine q _ H (Same.refl H) ?_
        rw [e]
        exact ⟨a, vs, rfl, l, r⟩
      · have e : (List.replicate n.toNat xs).flatten = [] := by
          rw [Int.toNat_of_nonpos z]
          rfl
        refine nT_rep k (ds := []) rfl ?_
        rw [e] at q
        exact q
    | _ => cases hg
  | _ => cases dx <;> cases hg
theorem od_rep : OpD K .f rRep dRep := by
  intro W A σ H env P x y dx dy d Q k rx ry hg q
  cases dx with
  | list xs =>
    cases dy with
    | int n =>
      cases (show y = .int n from ry)
      obtain ⟨h, rfl⟩ := guardD_some hg
      have h := of_decide_eq_true h
      obtain ⟨a, vs, rfl, l, r⟩ := rx
      refine ⟨a, n, vs, rfl, rfl, l.1, h.1, h.2.1, line_le (by rw [r.length]; exact h.2.2), fun p hp => ?_⟩
      have s := same_upd (o := .lst (List.replicate n.toNat vs).flatten) hp
      exact q _ _ s ⟨p, _, _, rfl, rfl, .of hp, upd_same, k.repsO hp (Reps.rep r _)⟩
    | _ => cases hg
  | _ => cases hg

/-! comparisons -/
theorem od_eq : OpD K .v (rEqD K) dEq := by
  intro W A σ H env P x y dx dy d Q k rx ry hg q
  obtain ⟨h, rfl⟩ := guardD_some hg
  rw [Bool.and_eq_true] at h
  exact ⟨dx, dy, rx.dp (shaped_nd h.1), ry.dp (shaped_nd h.2), h.1, h.2, q _ H (Same.refl H) rfl⟩
theorem od_ne : OpD K .v (rNeD K) dNe := by
  intro W A σ H env P x y dx dy d Q k rx ry hg q
  obtain ⟨h, rfl⟩ := guardD_some hg
  rw [Bool.and_eq_true] at h
  exact ⟨dx, dy, rx.dp (shaped_nd h.1), ry.dp (shaped_nd h.2), h.1, h.2, q _ H (Same.refl H) rfl⟩
def rC2 (f : Int → Int → Bool) (g : Str → Str → Bool) : R2 := fun x y H Q => (rI0 (fun i j => .bl (f i j)) x y H Q) ∨ ∃ i j, x = .str i ∧ y = .str j ∧ Q (.bl (g i j)) H
theorem od_c2 {f : Int → Int → Bool} {g : Str → Str → Bool} {c : D → D → Option D}
    (hc : ∀ dx dy d, c dx dy = some d → (∃ i j, dx = .int i ∧ dy = .int j ∧ d = .bool (f i j)) ∨ ∃ i j, dx = .str i ∧ dy = .str j ∧ d = .bool (g i j)) : OpD K .v (rC2 f g) c := by
  intro W A σ H env P x y dx dy d Q k rx ry hg q
  rcases hc dx dy d hg with ⟨i, j, rfl, rfl, rfl⟩ | ⟨i, j, rfl, rfl, rfl⟩
  · exact .inl ⟨i, j, rx, ry, q _ H (Same.refl H) rfl⟩
  · exact .inr ⟨i, j, rx, ry, q _ H (Same.refl H) rfl⟩
theorem dLt_ways (dx dy d : D) (h : dLt dx dy = some d) : (∃ i j, dx = .int i ∧ dy = .int j ∧ d = .bool (decide (i < j))) ∨ ∃ i j, dx = .str i ∧ dy = .str j ∧ d = .bool (decide (i.cps.toList < j.cps.toList)) := by
  cases dx <;> cases dy <;> first | (cases h; exact .inl ⟨_, _, rfl, rfl, rfl⟩) | (cases h; exact .inr ⟨_, _, rfl, rfl, rfl⟩) | cases h
theorem dLe_ways (dx dy d : D) (h : dLe dx dy = some d) : (∃ i j, dx = .int i ∧ dy = .int j ∧ d = .bool (decide (i ≤ j))) ∨ ∃ i j, dx = .str i ∧ dy = .str j ∧ d = .bool (!decide (j.cps.toList < i.cps.toList)) := by
  cases dx <;> cases dy <;> first | (cases h; exact .inl ⟨_, _, rfl, rfl, rfl⟩) | (cases h; exact .inr ⟨_, _, rfl, rfl, rfl⟩) | cases h
theorem or_lt : OpR X (compareOp .Lt) (rC2 (fun i j => decide (i < j)) fun i j => decide (i.cps.toList < j.cps.toList)) := op_lt.or op_lt_str
theorem or_le : OpR X (compareOp .LtE) (rC2 (fun i j => decide (i ≤ j)) fun i j => !decide (j.cps.toList < i.cps.toList)) := op_le.or op_le_str
theorem or_gt : OpR X (compareOp .Gt) (rC2 (fun i j => decide (j < i)) fun i j => decide (j.cps.toList < i.cps.toList)) := op_gt.or op_gt_str
theorem or_ge : OpR X (compareOp .GtE) (rC2 (fun i j => decide (j ≤ i)) fun i j => !decide (i.cps.toList < j.cps.toList)) := op_ge.or op_ge_str
theorem od_lt : OpD K .v (rC2 (fun i j => decide (i < j)) fun i j => decide (i.cps.toList < j.cps.toList)) dLt := od_c2 dLt_ways
theorem od_le : OpD K .v (rC2 (fun i j => decide (i ≤ j)) fun i j => !decide (j.cps.toList < i.cps.toList)) dLe := od_c2 dLe_ways
theorem od_gt : OpD K .v (rC2 (fun i j => decide (j < i)) fun i j => decide (j.cps.toList < i.cps.toList)) dGt := od_c2 fun dx dy d h => by
  rcases dLt_ways dy dx d h with ⟨i, j, e1, e2, e3⟩ | ⟨i, j, e1, e2, e3⟩
  · exact .inl ⟨j, i, e2, e1, e3⟩
  · exact .inr ⟨j, i, e2, e1, e3⟩
theorem od_ge : OpD K .v (rC2 (fun i j => decide (j ≤ i)) fun i j => !decide (i.cps.toList < j.cps.toList)) dGe := od_c2 fun dx dy d h => by
  rcases dLe_ways dy dx d h with ⟨i, j, e1, e2, e3⟩ | ⟨i, j, e1, e2, e3⟩
  · exact .inl ⟨j, i, e2, e1, e3⟩
  · exact .inr ⟨j, i, e2, e1, e3⟩
end
end Vl
end
section
set_option autoImplicit false
set_option maxRecDepth 100000
/-! V4: in, is, tests, choices, items, slices. -/
namespace Vl
open PySem L2

theorem Reps.flat {K : PySem.W.Frag} {A : AS} {H : Hp} : ∀ {ds : List D} {vs : List V}, Reps K A H ds vs → ds.all flatD = true → vs.all flatV = true ∧ ∀ (d : D) (v : V), flatD d = true → Rep K A H d v → vs.any (fun y => eqV y v) = ds.any fun z => PyData.eqv z d
  | [], _, h, _ => by rw [show _ = [] from h]; exact ⟨rfl, fun _ _ _ _ => rfl⟩
  | e :: ds, _, ⟨x, r, q, h, t⟩, f => by
    subst q
    rw [List.all_cons] at f; rw [Bool.and_eq_true] at f
    obtain ⟨f1, f2⟩ := Reps.flat t f.2
    refine ⟨?_, fun d v fd rd => ?_⟩
    · rw [List.all_cons, f1, Bool.and_true]
      cases e <;> first | exact (Bool.false_ne_true f.1).elim | (cases (show x = _ from h); rfl)
    · rw [List.any_cons, List.any_cons, f2 d v fd rd]
      congr 1
      cases e <;> first | exact (Bool.false_ne_true f.1).elim | (cases (show x = _ from h); cases d <;> first | exact (Bool.false_ne_true fd).elim | (cases (show v = _ from rd); rfl))
theorem flatD_V {K : PySem.W.Frag} {pa : PL} {A : AS} {H : Hp} {d : D} {v : V} (f : flatD d = true) (h : RepB K pa A H d v) : flatV v = true ∧ Rep K A H d v := by
  cases d <;> first | exact (Bool.false_ne_true f).elim | (cases (show v = _ from h); exact ⟨rfl, rfl⟩)

section
variable {X : Cx} {K : PySem.W.Frag}
def rInA (K : PySem.W.Frag) : R2 := fun x y H Q => (∃ i j, x = .str i ∧ y = .str j ∧ Q (.bl (!(Builtin.Str.occurrences j i 0 j.length 1).isEmpty)) H) ∨ (rInD K x y H Q ∨ rIn K false x y H Q)
def rNotInA (K : PySem.W.Frag) : R2 := fun x y H Q => (∃ i j, x = .str i ∧ y = .str j ∧ Q (.bl (!(!(Builtin.Str.occurrences j i 0 j.length 1).isEmpty))) H) ∨ (rNotInD K x y H Q ∨ rIn K true x y H Q)
theorem or_in (hu : X.A.units + 65 < cLine) : OpR X (compareOp .In) (rInA X.K) := op_in_str.or ((op_inD hu).or op_in_seq)
theorem or_notin (hu : X.A.units + 65 < cLine) : OpR X (compareOp .NotIn) (rNotInA X.K) := op_notin_str.or ((op_notInD hu).or op_notIn_seq)
theorem dIn_ways {dx dy d : D} (h : dIn dx dy = some d) : (∃ a b, dx = .str a ∧ dy = .str b ∧ d = .bool (!(Builtin.Str.occurrences b a 0 b.length 1).isEmpty)) ∨
    (∃ ds, dy = .list ds ∧ SeqAt.shaped dx = true ∧ SeqAt.shaped (.list ds) = true ∧ d = .bool (ds.any fun z => PyData.eqv z dx)) ∨ (∃ ds, dy = .tuple ds ∧ flatD dx = true ∧ ds.all flatD = true ∧ d = .bool (ds.any fun z => PyData.eqv z dx)) := by
  cases dy with
  | str b => cases dx <;> first | (cases h; exact .inl ⟨_, _, rfl, rfl, rfl⟩) | cases h
  | list ds =>
    have h' : guardD (SeqAt.shaped dx && SeqAt.shaped (.list ds)) (.bool (ds.any fun z => PyData.eqv z dx)) = some d := by cases dx <;> exact h
    obtain ⟨c, rfl⟩ := guardD_some h'
    rw [Bool.and_eq_true] at c
    exact .inr (.inl ⟨ds, rfl, c.1, c.2, rfl⟩)
  | tuple ds =>
    have h' : guardD (flatD dx && ds.all flatD) (.bool (ds.any fun z => PyData.eqv z dx)) = some d := by cases dx <;> exact h
    obtain ⟨c, rfl⟩ := guardD_some h'
    rw [Bool.and_eq_true] at c
    exact .inr (.inr ⟨ds, rfl, c.1, c.2, rfl⟩)
  | _ => cases dx <;> cases h
theorem od_in : OpD K .v (rInA K) dIn := by
  intro W A σ H env P x y dx dy d Q k rx ry hg q
  rcases dIn_ways hg with ⟨a, b, rfl, rfl, rfl⟩ | ⟨ds, rfl, s1, s2, rfl⟩ | ⟨ds, rfl, s1, s2, rfl⟩
  · exact .inl ⟨a, b, rx, ry, q _ H (Same.refl H) rfl⟩
  · exact .inr (.inl ⟨dx, ds, rx.dp (shaped_nd s1), ry.dp (shaped_nd s2), s1, s2, q _ H (Same.refl H) rfl⟩)
  · obtain ⟨p, vs, rfl, l, r⟩ := ry
    obtain ⟨f1, f2⟩ := r.flat s2
    obtain ⟨f3, f4⟩ := flatD_V s1 rx
    refine .inr (.inr ⟨p, vs, rfl, .inr l.sq, f3, f1, ?_⟩)
    show Q (.bl (vs.any fun y => eqV y x)) H
    rw [f2 dx x s1 f4]
    exact q _ H (Same.refl H) rfl
theorem od_notin : OpD K .v (rNotInA K) dNotIn := by
  intro W A σ H env P x y dx dy d Q k rx ry hg q
  obtain ⟨b, hb, rfl⟩ : ∃ b, dIn dx dy = some (.bool b) ∧ d = .bool (!b) := by
    unfold dNotIn notD at hg
    split at hg
    · rename_i b e; cases hg; exact ⟨b, e, rfl⟩
    · cases hg
  rcases dIn_ways hb with ⟨a, b', rfl, rfl, e⟩ | ⟨ds, rfl, s1, s2, e⟩ | ⟨ds, rfl, s1, s2, e⟩
  · cases e; exact .inl ⟨a, b', rx, ry, q _ H (Same.refl H) rfl⟩
  · cases e; exact .inr (.inl ⟨dx, ds, rx.dp (shaped_nd s1), ry.dp (shaped_nd s2), s1, s2, q _ H (Same.refl H) rfl⟩)
  · cases e
    obtain ⟨p, vs, rfl, l, r⟩ := ry
    obtain ⟨f1, f2⟩ := r.flat s2
    obtain ⟨f3, f4⟩ := flatD_V s1 rx
    refine .inr (.inr ⟨p, vs, rfl, .inr l.sq, f3, f1, ?_⟩)
    show Q (.bl (!(vs.any fun y => eqV y x))) H
    rw [f2 dx x s1 f4]
    exact q _ H (Same.refl H) rfl
def rIsA : R2 := fun x y H Q => (y = .non ∧ Q (.bl (decide (x = .non))) H) ∨ ∃ a b, x = .bl a ∧ y = .bl b ∧ Q (.bl (decide (a = b))) H
def rIsNotA : R2 := fun x y H Q => (y = .non ∧ Q (.bl (!decide (x = .non))) H) ∨ ∃ a b, x = .bl a ∧ y = .bl b ∧ Q (.bl (!decide (a = b))) H
theorem or_is : OpR X (compareOp .Is) rIsA := op_isN.or op_is_bl
theorem or_isnot : OpR X (compareOp .IsNot) rIsNotA := op_notN.or op_isnot_bl
theorem non_iff {pa : PL} {A : AS} {H : Hp} {d : D} {v : V} (h : RepB K pa A H d v) : decide (v = V.non) = isNoneD d := by
  cases d with
  | none => cases (show v = _ from h); rfl
  | bool _ => cases (show v = _ from h); rfl
  | int _ => cases (show v = _ from h); rfl
  | str _ => cases (show v = _ from h); rfl
  | list _ => obtain ⟨a, vs, rfl, _⟩ := h; rfl
  | tuple _ => obtain ⟨a, vs, rfl, _⟩ := h; rfl
  | dict _ => obtain ⟨a, vs, rfl, _⟩ := h; rfl
theorem dIs_ways {dx dy d : D} (h : dIsNone dx dy = some d) : (dy = .none ∧ d = .bool (isNoneD dx)) ∨ ∃ a b, dx = .bool a ∧ dy = .bool b ∧ d = .bool (decide (a = b)) := by
  cases dy with
  | none => cases dx <;> (cases h; exact .inl ⟨rfl, rfl⟩)
  | bool b => cases dx <;> first | (cases h; exact .inr ⟨_, _, rfl, rfl, rfl⟩) | cases h
  | _ => cases dx <;> cases h
theorem od_is : OpD K .v rIsA dIsNone := by
  intro W A σ H env P x y dx dy d Q k rx ry hg q
  rcases dIs_ways hg with ⟨rfl, rfl⟩ | ⟨a, b, rfl, rfl, rfl⟩
  · refine .inl ⟨ry, ?_⟩
    rw [non_iff rx]
    exact q _ H (Same.refl H) rfl
  · exact .inr ⟨a, b, rx, ry, q _ H (Same.refl H) rfl⟩
theorem od_isnot : OpD K .v rIsNotA dIsNotNone := by
  intro W A σ H env P x y dx dy d Q k rx ry hg q
  obtain ⟨b, hb, rfl⟩ : ∃ b, dIsNone dx dy = some (.bool b) ∧ d = .bool (!b) := by
    unfold dIsNotNone notD at hg
    split at hg
    · rename_i b e; cases hg; exact ⟨b, e, rfl⟩
    · cases hg
  rcases dIs_ways hb with ⟨rfl, e⟩ | ⟨a, b', rfl, rfl, e⟩
  · refine .inl ⟨ry, ?_⟩
    rw [non_iff rx]
    cases e
    exact q _ H (Same.refl H) rfl
  · cases e
    exact .inr ⟨a, b', rx, ry, q _ H (Same.refl H) rfl⟩
end

/-! ### tests -/
def XW (Ex : Str → Hp → Prop) (X : Cx) (e : Expr) (f : Env → M Bool) : Prop := ∃ t, PW X e t ∧ SdT X.K Ex t f
def mAnd (f g : Env → M Bool) : Env → M Bool := fun env => bnd (f env) fun b => if b then g env else ret false
def mOr (f g : Env → M Bool) : Env → M Bool := fun env => bnd (f env) fun b => if b then ret true else g env
def mNot (f : Env → M Bool) : Env → M Bool := fun env => bnd (f env) fun b => ret (!b)
def vAnd (f g : Env → M D) : Env → M D := fun env => bnd (f env) fun
  | .bool b => if b then g env else ret (.bool false)
  | _ => no
def vOr (f g : Env → M D) : Env → M D := fun env => bnd (f env) fun
  | .bool b => if b then ret (.bool true) else g env
  | _ => no
def vNot (f : Env → M D) : Env → M D := fun env => bnd (f env) fun
  | .bool b => ret (.bool (!b))
  | _ => no
def dTru : D → Option Bool
  | .none => some false
  | .bool b => some b
  | .int i => some (i != 0)
  | .str s => if s.length ≤ 16777216 then some ((s.length : Int) != 0) else none
  | .list xs => some (!xs.isEmpty)
  | .tuple xs => some (!xs.isEmpty)
  | .dict _ => none
def tTru (f : Env → M D) : Env → M Bool := fun env => bnd (f env) fun d => orNo (dTru d)
def vIf (c : Env → M Bool) (f g : Env → M D) : Env → M D := fun env => bnd (c env) fun b => if b then f env else g env
def dChain (g g' : D → D → Option D) (f1 f2 f3 : Env → M D) : Env → M D := fun env => bnd (f1 env) fun x => bnd (f2 env) fun y => bnd (orNo (g x y)) fun
  | .bool b => if b then bnd (f3 env) fun z => orNo (g' y z) else ret (.bool false)
  | _ => no
section
variable {Ex : Str → Hp → Prop} {X : Cx} {pos : Pos} {a b c e : Expr} {rest : List Expr} {f g h : Env → M Bool} {fa fb fc : Env → M D} {kd : Kd}
theorem XW.t (w : XW Ex X e f) : XT Ex X e f := let ⟨t, h, q⟩ := w; ⟨t, h.pt, q⟩
theorem xw_and1 (ha : XT Ex X a f) : XW Ex X (.BoolOp .And [a] pos) f := let ⟨t, h, q⟩ := ha; ⟨t, pw_and1 h, q⟩
theorem xw_or1 (ha : XT Ex X a f) : XW Ex X (.BoolOp .Or [a] pos) f := let ⟨t, h, q⟩ := ha; ⟨t, pw_or1 h, q⟩
theorem xw_and (ha : XT Ex X a f) (hb : XW Ex X (.BoolOp .And (b :: rest) pos) g) : XW Ex X (.BoolOp .And (a :: b :: rest) pos) (mAnd f g) := by
  obtain ⟨t, ht, q⟩ := ha
  obtain ⟨u, hu, q2⟩ := hb
  refine ⟨_, pw_and ht hu, fun W A σ H env P Q k p => ?_⟩
  refine q W A σ H env P _ k ((PostG.bnd k p).mono ?_)
  rintro d _ H1 _ _ ⟨P1, e1, p1, k1, post⟩
  cases d with
  | true => exact iteT (q2 W A σ H1 env P1 Q k1 (PostG.mono post fun _ _ _ e2 _ z => z (e1.trans e2)))
  | false => exact iteF (post_here post p1 e1)
theorem xw_or (ha : XT Ex X a f) (hb : XW Ex X (.BoolOp .Or (b :: rest) pos) g) : XW Ex X (.BoolOp .Or (a :: b :: rest) pos) (mOr f g) := by
  obtain ⟨t, ht, q⟩ := ha
  obtain ⟨u, hu, q2⟩ := hb
  refine ⟨_, pw_or ht hu, fun W A σ H env P Q k p => ?_⟩
  refine q W A σ H env P _ k ((PostG.bnd k p).mono ?_)
  rintro d _ H1 _ _ ⟨P1, e1, p1, k1, post⟩
  cases d with
  | false => exact iteF (q2 W A σ H1 env P1 Q k1 (PostG.mono post fun _ _ _ e2 _ z => z (e1.trans e2)))
  | true => exact iteT (post_here post p1 e1)
theorem xt_not (ha : XT Ex X a f) : XT Ex X (.UnaryOp .Not a pos) (mNot f) := by
  obtain ⟨t, ht, q⟩ := ha
  refine ⟨_, pt_not ht, fun W A σ H env P Q k p => ?_⟩
  refine q W A σ H env P _ k ((PostG.bnd k p).mono ?_)
  rintro d _ H1 _ _ ⟨P1, e1, p1, k1, post⟩
  exact post_here post p1 e1
theorem x_one {op} (ha : XE Ex X kd a fa) : XE Ex X kd (.BoolOp op [a] pos) fa := let ⟨t, h, q⟩ := ha; ⟨t, pe_one h, q⟩
theorem x_and (ha : XE Ex X .v a fa) (hb : XE Ex X .v (.BoolOp .And (b :: rest) pos) fb) : XE Ex X .v (.BoolOp .And (a :: b :: rest) pos) (vAnd fa fb) := by
  obtain ⟨t, ht, q⟩ := ha
  obtain ⟨u, hu, q2⟩ := hb
  refine ⟨_, pe_and ht hu, fun W A σ H env P Q k p => ?_⟩
  refine q W A σ H env P _ k ((PostG.bnd k p).mono ?_)
  rintro d _ H1 _ _ ⟨P1, e1, p1, k1, post⟩ x r
  cases d with
  | bool b =>
    refine ⟨b, r, ?_⟩
    cases b with
    | true => exact iteT (q2 W A σ H1 env P1 Q k1 (PostG.mono post fun _ _ _ e2 _ z => z (e1.trans e2)))
    | false => exact iteF (post_here post p1 e1 _ rfl)
  | _ => exact post.elim
theorem x_or (ha : XE Ex X .v a fa) (hb : XE Ex X .v (.BoolOp .Or (b :: rest) pos) fb) : XE Ex X .v (.BoolOp .Or (a :: b :: rest) pos) (vOr fa fb) := by
  obtain ⟨t, ht, q⟩ := ha
  obtain ⟨u, hu, q2⟩ := hb
  refine ⟨_, pe_or ht hu, fun W A σ H env P Q k p => ?_⟩
  refine q W A σ H env P _ k ((PostG.bnd k p).mono ?_)
  rintro d _ H1 _ _ ⟨P1, e1, p1, k1, post⟩ x r
  cases d with
  | bool b =>
    refine ⟨b, r, ?_⟩
    cases b with
    | false => exact iteF (q2 W A σ H1 env P1 Q k1 (PostG.mono post fun _ _ _ e2 _ z => z (e1.trans e2)))
    | true => exact iteT (post_here post p1 e1 _ rfl)
  | _ => exact post.elim
theorem x_not (ha : XE Ex X .v a fa) : XE Ex X .v (.UnaryOp .Not a pos) (vNot fa) := by
  obtain ⟨t, ht, q⟩ := ha
  refine ⟨_, pe_not ht, fun W A σ H env P Q k p => ?_⟩
  refine q W A σ H env P _ k ((PostG.bnd k p).mono ?_)
  rintro d _ H1 _ _ ⟨P1, e1, p1, k1, post⟩ x r
  cases d with
  | bool b => exact ⟨b, r, post_here post p1 e1 _ rfl⟩
  | _ => exact post.elim
theorem dTru_V {K : PySem.W.Frag} {pa : PL} {A : AS} {H : Hp} {d : D} {v : V} {k : Bool} (r : RepB K pa A H d v) (h : dTru d = some k) : TruV K v H k := by
  cases d with
  | none => cases (show v = _ from r); cases h; rfl
  | bool _ => cases (show v = _ from r); cases h; rfl
  | int _ => cases (show v = _ from r); cases h; rfl
  | str s =>
    cases (show v = _ from r)
    change (if s.length ≤ 16777216 then some ((s.length : Int) != 0) else none) = some k at h
    by_cases hl : s.length ≤ 16777216
    · rw [if_pos hl] at h; cases h; exact ⟨line_le hl, rfl⟩
    · rw [if_neg hl] at h; cases h
  | list xs =>
    obtain ⟨a, vs, rfl, l, q⟩ := r
    cases h
    refine .inl ⟨vs, l.sq, ?_⟩
    cases xs with
    | nil => cases (show vs = [] from q); rfl
    | cons x r => obtain ⟨_, _, rfl, _⟩ := q; rfl
  | tuple xs =>
    obtain ⟨a, vs, rfl, l, q⟩ := r
    cases h
    refine .inr (.inl ⟨vs, l.sq, ?_⟩)
    cases xs with
    | nil => cases (show vs = [] from q); rfl
    | cons x r => obtain ⟨_, _, rfl, _⟩ := q; rfl
  | dict _ => cases h
theorem xt_tru (ha : XE Ex X .b a fa) (he : ∀ whole, isTrue a X.env whole = (do let v ← whole; standAt a.pos; holding [v] (truthy v)) := by intro _; rfl) : XT Ex X a (tTru fa) := by
  obtain ⟨t, ht, q⟩ := ha
  refine ⟨_, pt_truth ht he, fun W A σ H env P Q k p => ?_⟩
  refine q W A σ H env P _ k ((PostG.bnd k p).mono ?_)
  rintro d _ H1 _ _ ⟨P1, e1, p1, k1, post⟩ x r
  obtain ⟨b, hb, post2⟩ := post_orNo post
  exact ⟨b, dTru_V r hb, post_here post2 p1 e1⟩
theorem x_if (hc : XT Ex X c f) (ha : XE Ex X kd a fa) (hb : XE Ex X kd b fb) : XE Ex X kd (.IfExp c a b pos) (vIf f fa fb) := by
  obtain ⟨t, ht, q⟩ := hc
  obtain ⟨u, hu, q1⟩ := ha
  obtain ⟨w, hw, q2⟩ := hb
  refine ⟨_, pe_ifExp ht hu hw, fun W A σ H env P Q k p => ?_⟩
  refine q W A σ H env P _ k ((PostG.bnd k p).mono ?_)
  rintro d _ H1 _ _ ⟨P1, e1, p1, k1, post⟩
  have go : ∀ {t : TE} {ff : Env → M D}, Sd X.K Ex kd t ff → PostG Ex W.pa H1 (ff env P1) (fun d H2 => HExt W.pa H H2 → ∀ v, rel X.K W.pa A H H2 d v kd → Q v H2) → t σ H1 Q := fun q1 post =>
    q1 W A σ H1 env P1 Q k1 (PostG.mono post fun d P' H' e2 p' z v r => z (e1.trans e2) v (rel_back k.pen e1 p1 r))
  cases d with
  | true => exact iteT (go q1 post)
  | false => exact iteF (go q2 post)
theorem sd_chain {K : PySem.W.Frag} {r r' : R2} {g g' : D → D → Option D} (hr : OpD K .v r g) (hr' : OpD K .v r' g') {ta tb tc : TE} (ha : Sd K Ex .b ta fa) (hb : Sd K Ex .b tb fb) (hc : Sd K Ex .b tc fc) : Sd K Ex .v (tChain r r' ta tb tc) (dChain g g' fa fb fc) := fun W A σ H env P Q k p => by
  refine ha W A σ H env P _ k ((PostG.bnd k p).mono ?_)
  rintro dx _ H1 _ _ ⟨P1, e1, p1, k1, post⟩ x rx
  refine hb W A σ H1 env P1 _ k1 ((PostG.bnd k1 post).mono ?_)
  rintro dy _ H2 _ _ ⟨P2, e2, p2, k2, post2⟩ y ry
  have post3 := PostG.bnd k2 post2
  obtain ⟨d, hd, post4⟩ := post_orNo post3
  refine hr W A σ H2 env P2 x y dx dy d _ k2 (RepB.ext k1 e2 rx) ry hd fun v H3 s hv => ?_
  obtain ⟨P3, e3, p3, k3, post5⟩ := post4 H3 (HExt.of s) (penOk_same s p2)
  cases d with
  | bool b =>
    refine ⟨b, hv, ?_⟩
    cases b with
    | false => exact iteF (post_here post5 p3 e3 (e2.trans e3) (e1.trans (e2.trans e3)) _ rfl)
    | true =>
      refine iteT (hc W A σ H3 env P3 _ k3 ((PostG.bnd k3 post5).mono ?_))
      rintro dz _ H4 _ _ ⟨P4, e4, p4, k4, post6⟩ z rz
      obtain ⟨d, hd, post7⟩ := post_orNo post6
      refine hr' W A σ H4 env P4 y z dy dz d Q k4 (RepB.ext k3 e4 (RepB.ext k2 e3 ry)) rz hd fun v H5 s5 hv => ?_
      have e5 := HExt.of (pa := W.pa) s5
      exact post_ret post7 s5 p4 (e4.trans e5) (e3.trans (e4.trans e5)) (e2.trans (e3.trans (e4.trans e5))) (e1.trans (e2.trans (e3.trans (e4.trans e5)))) v hv
  | _ => exact post5.elim
theorem x_chain {op op' : CmpOp} {r r' : R2} {g g' : D → D → Option D} (ho : OpR X (compareOp op) r) (ho' : OpR X (compareOp op') r') (hr : OpD X.K .v r g) (hr' : OpD X.K .v r' g') (ha : XE Ex X .b a fa) (hb : XE Ex X .b b fb) (hc : XE Ex X .b c fc)
    (hm : lastMarks [op, op'] [b, c] = false := by with_unfolding_all rfl) : XE Ex X .v (.Compare a [op, op'] [b, c] pos) (dChain g g' fa fb fc) := by
  obtain ⟨ta, ha, qa⟩ := ha
  obtain ⟨tb, hb, qb⟩ := hb
  obtain ⟨tc, hc, qc⟩ := hc
  exact ⟨_, pe_chain ho ho' ha hb hc hm, sd_chain hr hr' qa qb qc⟩
theorem xt_chain {op op' : CmpOp} {r r' : R2} {g g' : D → D → Option D} (ho : OpR X (compareOp op) r) (ho' : OpR X (compareOp op') r') (hr : OpD X.K .v r g) (hr' : OpD X.K .v r' g') (ha : XE Ex X .b a fa) (hb : XE Ex X .b b fb) (hc : XE Ex X .b c fc)
    (hm : lastMarks [op, op'] [b, c] = false := by with_unfolding_all rfl) : XT Ex X (.Compare a [op, op'] [b, c] pos) (tV (dChain g g' fa fb fc)) := by
  obtain ⟨ta, ha, qa⟩ := ha
  obtain ⟨tb, hb, qb⟩ := hb
  obtain ⟨tc, hc, qc⟩ := hc
  exact ⟨_, pt_chain ho ho' ha hb hc hm, sdT_test (sd_chain hr hr' qa qb qc)⟩
end
end Vl
end
section
set_option autoImplicit false
set_option maxRecDepth 100000
/-! V5: items, slices, built-ins. -/
namespace Vl
open PySem L2

/-! ### items and slices -/
def dIx : D → D → Option D
  | .list xs, .int i => atI xs i
  | .tuple xs, .int i => atI xs i
  | .str z, .int i => if z.length ≤ 16777216 then (atI z.cps.toList i).map fun c => .str ⟨#[c]⟩ else none
  | _, _ => none
theorem Reps.atI {K : PySem.W.Frag} {A : AS} {H : Hp} {ds : List D} {vs : List V} {i : Int} {d : D} (r : Reps K A H ds vs) (h : L2.atI ds i = some d) : ∃ v, L2.atI vs i = some v ∧ Rep K A H d v := by
  unfold L2.atI at h ⊢
  rw [r.length]
  cases hx : ixN ds.length i with
  | none => rw [hx] at h; cases h
  | some j =>
    rw [hx] at h
    obtain ⟨v, hv, rv⟩ := r.get' h
    exact ⟨v, hv, rv⟩
def cutD (xs : List D) (lo hi : Option Int) : List D := (xs.drop (HT.sIx xs.length 0 lo)).take (HT.sIx xs.length xs.length hi - HT.sIx xs.length 0 lo)
theorem Reps.cut {K : PySem.W.Frag} {A : AS} {H : Hp} {ds : List D} {vs : List V} (r : Reps K A H ds vs) (lo hi : Option Int) : Reps K A H (cutD ds lo hi) (cutV vs lo hi) := by
  unfold cutD cutV
  rw [r.length]
  exact (r.drop _).take _
def dSl (d : D) (lo hi : Option Int) : Option D := match d with
  | .list xs => some (.list (cutD xs lo hi))
  | .tuple xs => some (.tuple (cutD xs lo hi))
  | .str z => if z.length ≤ 16777216 then some (.str (cutS z lo hi)) else none
  | _ => none
/-- a bound of a slice -/
def dPart (f : Env → M D) : Env → M (Option Int) := fun env => bnd (f env) fun
  | .int i => ret (some i)
  | _ => no
def dNoPart : Env → M (Option Int) := fun _ => ret none
def dSlice (f : Env → M D) (lo hi : Env → M (Option Int)) : Env → M D := fun env => bnd (f env) fun d => bnd (lo env) fun l => bnd (hi env) fun h => orNo (dSl d l h)
def XO (Ex : Str → Hp → Prop) (X : Cx) (e : Option Expr) (f : Env → M (Option Int)) : Prop := ∃ t, PO X e t ∧ ∀ W A σ H env P Q, EOk X.K W A σ H env P → PostG Ex W.pa H (f env P) Q → t σ H Q
section
variable {Ex : Str → Hp → Prop} {X : Cx} {pos : Pos} {a b c e : Expr} {fa fb fc : Env → M D} {kd : Kd}
theorem od_ix {K : PySem.W.Frag} : OpD K .v (rIx K) dIx := by
  intro W A σ H env P x y dx dy d Q k rx ry hg q
  cases dy with
  | int i =>
    cases (show y = .int i from ry)
    cases dx with
    | list xs =>
      obtain ⟨p, vs, rfl, l, r⟩ := rx
      obtain ⟨v, hv, rv⟩ := r.atI hg
      exact .inl ⟨p, vs, i, v, rfl, rfl, l.sq, hv, q v H (Same.refl H) rv⟩
    | tuple xs =>
      obtain ⟨p, vs, rfl, l, r⟩ := rx
      obtain ⟨v, hv, rv⟩ := r.atI hg
      exact .inr (.inl ⟨p, vs, i, v, rfl, rfl, l.sq, hv, q v H (Same.refl H) rv⟩)
    | str z =>
      change (if z.length ≤ 16777216 then (L2.atI z.cps.toList i).map fun c => PyData.str ⟨#[c]⟩ else none) = some d at hg
      by_cases hl : z.length ≤ 16777216
      · rw [if_pos hl] at hg
        cases hc : L2.atI z.cps.toList i with
        | none => rw [hc] at hg; cases hg
        | some c =>
          rw [hc] at hg
          cases hg
          exact .inr (.inr ⟨z, i, c, rx, rfl, line_le hl, hc, q _ H (Same.refl H) rfl⟩)
      · rw [if_neg hl] at hg; cases hg
    | _ => cases hg
  | _ => cases dx <;> cases hg
theorem x_ix (ha : XE Ex X .b a fa) (hb : XE Ex X .b b fb) (hs : PlainIx b := by exact fun _ _ => rfl) : XE Ex X .v (.Subscript a b pos) (d2 dIx fa fb) := by
  obtain ⟨ta, ha, qa⟩ := ha
  obtain ⟨tb, hb, qb⟩ := hb
  exact ⟨_, pe_ix ix_seq ha hb hs, sd_op od_ix qa qb⟩
theorem xo_none : XO Ex X none dNoPart := ⟨_, po_none, fun W A σ H env P Q k p => post_here p k.pen⟩
theorem xo_some (h : XE Ex X .b e fa) : XO Ex X (some e) (dPart fa) := by
  obtain ⟨t, ht, q⟩ := h
  refine ⟨_, po_some ht, fun W A σ H env P Q k p => ?_⟩
  refine q W A σ H env P _ k ((PostG.bnd k p).mono ?_)
  rintro d _ H1 _ _ ⟨P1, e1, p1, k1, post⟩ x r
  cases d with
  | int i => exact ⟨i, r, post_here post p1 e1⟩
  | _ => exact post.elim
/-- what a slice asks of a value -/
def rSlAny (K : PySem.W.Frag) : V → Option Int → Option Int → Hp → VK → Prop := fun x lo hi H Q => rSlL K x lo hi H Q ∨ (rSlF K x lo hi H Q ∨ rSlS x lo hi H Q)
theorem cutV_all {xs : List V} {lo hi : Option Int} (h : HT.sIx xs.length 0 lo = 0 ∧ HT.sIx xs.length xs.length hi = xs.length) : cutV xs lo hi = xs := by
  unfold cutV
  rw [h.1, h.2, List.drop_zero, Nat.sub_zero, List.take_length]
theorem sl_any {K : PySem.W.Frag} (W : Wd) (A : AS) (σ : L2.St) (H : Hp) (env : Env) (P : Pen) (x : V) (dx d : D) (lo hi : Option Int) (Q : VK) (k : EOk K W A σ H env P) (rx : RepB K W.pa A H dx x) (hg : dSl dx lo hi = some d)
    (q : ∀ v H', Same H H' → Rep K A H' d v → Q v H') : rSlAny K x lo hi H Q := by
  cases dx with
  | list xs =>
    obtain ⟨p, vs, rfl, l, r⟩ := rx
    cases hg
    refine .inl ⟨p, vs, rfl, l.sq, fun p2 hp => ?_⟩
    have s := same_upd (o := .lst (cutV vs lo hi)) hp
    exact q _ _ s ⟨p2, _, rfl, ⟨upd_same, k.new hp⟩, k.repsN s (r.cut lo hi)⟩
  | tuple xs =>
    obtain ⟨p, vs, rfl, l, r⟩ := rx
    cases hg
    refine .inr (.inl ⟨p, vs, rfl, l.sq, fun z => ?_, fun _ => nT_rep k (r.cut lo hi) q⟩)
    have e := cutV_all z
    have r2 := r.cut lo hi
    rw [e] at r2
    exact q _ H (Same.refl H) ⟨p, vs, rfl, l, r2⟩
  | str z =>
    change (if z.length ≤ 16777216 then some (PyData.str (cutS z lo hi)) else none) = some d at hg
    by_cases hl : z.length ≤ 16777216
    · rw [if_pos hl] at hg
      cases hg
      exact .inr (.inr ⟨z, rx, line_le hl, q _ H (Same.refl H) rfl⟩)
    · rw [if_neg hl] at hg; cases hg
  | _ => cases hg
theorem x_slice {lo hi : Option Expr} {p2 : Pos} {fl fh : Env → M (Option Int)} (ha : XE Ex X .b e fa) (hl : XO Ex X lo fl) (hh : XO Ex X hi fh) : XE Ex X .v (.Subscript e (.Slice lo hi none p2) pos) (dSlice fa fl fh) := by
  obtain ⟨ta, ha, qa⟩ := ha
  obtain ⟨tl, hl, ql⟩ := hl
  obtain ⟨th, hh, qh⟩ := hh
  refine ⟨_, pe_slice (r := rSlAny X.K) (sl_list.or (sl_tupF.or sl_str)) ha hl hh, fun W A σ H env P Q k p => ?_⟩
  refine qa W A σ H env P _ k ((PostG.bnd k p).mono ?_)
  rintro d _ H1 _ _ ⟨P1, e1, p1, k1, post⟩ x r
  refine ql W A σ H1 env P1 _ k1 ((PostG.bnd k1 post).mono ?_)
  rintro l _ H2 _ _ ⟨P2, e2, p2, k2, post2⟩
  refine qh W A σ H2 env P2 _ k2 ((PostG.bnd k2 post2).mono ?_)
  rintro h _ H3 _ _ ⟨P3, e3, p3, k3, post3⟩
  obtain ⟨d', hd, post4⟩ := post_orNo post3
  refine sl_any W A σ H3 env P3 x d d' l h Q k3 (RepB.ext k2 e3 (RepB.ext k1 e2 r)) hd fun v H4 s rv => ?_
  exact post_ret post4 s p3 (e3.trans (HExt.of s)) (e2.trans (e3.trans (HExt.of s))) (e1.trans (e2.trans (e3.trans (HExt.of s)))) v rv
end

/-! ### arguments whose own places may be anybody's -/
def RepsB (K : PySem.W.Frag) (pa : PL) (A : AS) (H : Hp) : List D → List V → Prop
  | [], vs => vs = []
  | d :: ds, vs => ∃ v r, vs = v :: r ∧ RepB K pa A H d v ∧ RepsB K pa A H ds r
def XB (Ex : Str → Hp → Prop) (X : Cx) (es : List Expr) (f : Env → M (List D)) : Prop := ∃ t, PA X es t ∧ ∀ W A σ H env P Q, EOk X.K W A σ H env P → PostG Ex W.pa H (f env P) (fun ds H' => ∀ vs, RepsB X.K W.pa A H' ds vs → Q vs H') → t σ H Q
def CallD (K : PySem.W.Frag) (kd : Kd) (r : List V → Hp → VK → Prop) (g : List D → Option D) : Prop := ∀ (W : Wd) (A : AS) (σ : L2.St) (H : Hp) (env : Env) (P : Pen) (vs : List V) (ds : List D) (d : D) (Q : VK), EOk K W A σ H env P → RepsB K W.pa A H ds vs → g ds = some d →
  (∀ v H', Same H H' → rel K W.pa A H H' d v kd → Q v H') → r vs H Q
def dB (g : List D → Option D) (f : Env → M (List D)) : Env → M D := fun env => bnd (f env) fun ds => orNo (g ds)
section
variable {Ex : Str → Hp → Prop} {X : Cx} {pos p : Pos} {a b c e : Expr} {es : List Expr} {fa fb fc : Env → M D} {g : Env → M (List D)} {kd : Kd} {x : Str} {id T : String}
theorem RepsB.ext {K : PySem.W.Frag} {A : AS} {σ : L2.St} {W : Wd} {env : Env} {P : Pen} {H H' : Hp} (k : EOk K W A σ H env P) (e : HExt W.pa H H') : ∀ {ds : List D} {vs : List V}, RepsB K W.pa A H ds vs → RepsB K W.pa A H' ds vs
  | [], _, h => h
  | _ :: _, _, ⟨v, r, e1, h, t⟩ => ⟨v, r, e1, RepB.ext k e h, RepsB.ext k e t⟩
theorem xB_nil : XB Ex X [] aNil := ⟨_, pa_nil, fun W A σ H env P Q k p => post_here p k.pen [] rfl⟩
theorem xB_cons (h : XE Ex X .b e fa) (h2 : XB Ex X es g) (hs : starEach (e :: es) X.env = (false, eval e X.env) :: starEach es X.env := by rfl) : XB Ex X (e :: es) (aCons fa g) := by
  obtain ⟨t, ht, q⟩ := h
  obtain ⟨u, hu, q2⟩ := h2
  refine ⟨_, pa_cons ht hu hs, fun W A σ H env P Q k p => ?_⟩
  refine q W A σ H env P _ k ((PostG.bnd k p).mono ?_)
  rintro d _ H1 _ _ ⟨P1, e1, p1, k1, post⟩ v r
  refine q2 W A σ H1 env P1 _ k1 ((PostG.bnd k1 post).mono ?_)
  rintro ds _ H2 _ _ ⟨P2, e2, p2, k2, post2⟩ vs rs
  exact post_here post2 p2 e2 (e1.trans e2) (v :: vs) ⟨v, vs, rfl, RepB.ext k1 e2 r, rs⟩
theorem sd_B {t : L2.TA} {r : List V → Hp → VK → Prop} {gg : List D → Option D} (hr : CallD X.K kd r gg) (h : ∀ W A σ H env P Q, EOk X.K W A σ H env P → PostG Ex W.pa H (g env P) (fun ds H' => ∀ vs, RepsB X.K W.pa A H' ds vs → Q vs H') → t σ H Q) :
    Sd X.K Ex kd (tCB r t) (dB gg g) := fun W A σ H env P Q k p => by
  refine h W A σ H env P _ k ((PostG.bnd k p).mono ?_)
  rintro ds _ H1 _ _ ⟨P1, e1, p1, k1, post⟩ vs rs
  obtain ⟨d, hd, post2⟩ := post_orNo post
  refine hr W A σ H1 env P1 vs ds d Q k1 rs hd fun v H2 s hv => ?_
  exact post_ret post2 s p1 (e1.trans (HExt.of s)) v (rel_back k.pen e1 p1 hv)
theorem x_blt {r : List V → Hp → VK → Prop} {gg : List D → Option D} (hc : CallR X (.builtin id) r) (hr : CallD X.K kd r gg) (hm : X.mg x = none) (hv : bootBuiltins x = some (.builtin id)) (ha : XB Ex X (e :: es) g) (hg : Gl X x := by rfl) (hn : x ≠ "__name__" := by decide) (hdb : (x == ("__debug__" : Str)) = false := by decide)
    (he : starEach (e :: es) X.env = (false, eval e X.env) :: starEach es X.env := by rfl) (hpl : (backTo pos (starEach es X.env)).any (·.1) = false := by rfl) : XE Ex X kd (.Call (.Name x p) (e :: es) [] pos) (dB gg g) := by
  obtain ⟨t, ht, q⟩ := ha
  exact ⟨_, pe_callB hc hg hm hv ht hn hdb he hpl, sd_B hr q⟩
theorem x_bty {r : List V → Hp → VK → Prop} {gg : List D → Option D} (hc : CallR X (.type T) r) (hr : CallD X.K kd r gg) (hm : X.mg x = none) (hv : bootBuiltins x = some (.type T)) (ha : XB Ex X (e :: es) g) (hg : Gl X x := by rfl) (hn : x ≠ "__name__" := by decide) (hdb : (x == ("__debug__" : Str)) = false := by decide)
    (he : starEach (e :: es) X.env = (false, eval e X.env) :: starEach es X.env := by rfl) (hpl : (backTo pos (starEach es X.env)).any (·.1) = false := by rfl) : XE Ex X kd (.Call (.Name x p) (e :: es) [] pos) (dB gg g) := by
  obtain ⟨t, ht, q⟩ := ha
  exact ⟨_, pe_callTy hc hg hm hv ht hn hdb he hpl, sd_B hr q⟩
end

/-! ### the built-ins' answers -/
def gLen : List D → Option D
  | [.list xs] => some (.int xs.length)
  | [.tuple xs] => some (.int xs.length)
  | [.str z] => if z.length ≤ 16777216 then some (.int z.length) else none
  | _ => none
def gInt : List D → Option D
  | [.int i] => some (.int i)
  | [.bool b] => some (.int (if b then 1 else 0))
  | _ => none
def signD (c : Nat) : D := .str ⟨#[c]⟩
def gList : List D → Option D
  | [.list xs] => some (.list xs)
  | [.tuple xs] => some (.list xs)
  | [.str z] => if z.length ≤ 16777216 then some (.list (z.cps.toList.map signD)) else none
  | _ => none
def gTuple : List D → Option D
  | [.list xs] => some (.tuple xs)
  | [.tuple xs] => some (.tuple xs)
  | _ => none
def boolsOf : List D → Option (List Bool)
  | [] => some []
  | .bool b :: r => (boolsOf r).map (b :: ·)
  | _ => none
def gAll : List D → Option D
  | [.list xs] => (boolsOf xs).map fun bs => .bool (bs.all id)
  | _ => none
def gAny : List D → Option D
  | [.list xs] => (boolsOf xs).map fun bs => .bool (bs.any id)
  | _ => none
def gRepr : List D → Option D
  | [d] => if d.showable = true ∧ d.depth ≤ 64 ∧ d.shown.length ≤ 16777216 then some (.str d.shown) else none
  | _ => none
section
variable {X : Cx} {K : PySem.W.Frag}
theorem one_arg {pa : PL} {A : AS} {H : Hp} {d : D} {vs : List V} (h : RepsB K pa A H [d] vs) : ∃ v, vs = [v] ∧ RepB K pa A H d v := by
  obtain ⟨v, r, rfl, h1, h2⟩ := h
  cases (show r = [] from h2)
  exact ⟨v, rfl, h1⟩
theorem cd_len : CallD K .v (fun xs H Q => ∃ x n, xs = [x] ∧ LenV K x H n ∧ Q (.int n) H) gLen := by
  intro W A σ H env P vs ds d Q k rs hg q
  match ds, rs, hg with
  | [d0], rs, hg =>
    obtain ⟨v, rfl, r⟩ := one_arg rs
    cases d0 with
    | list xs =>
      cases hg
      obtain ⟨a, vs, rfl, l, r⟩ := r
      exact ⟨_, vs.length, rfl, .inl ⟨vs, l.sq, rfl⟩, q _ H (Same.refl H) (by show V.int _ = V.int _; rw [r.length])⟩
    | tuple xs =>
      cases hg
      obtain ⟨a, vs, rfl, l, r⟩ := r
      exact ⟨_, vs.length, rfl, .inr ⟨vs, l.sq, rfl⟩, q _ H (Same.refl H) (by show V.int _ = V.int _; rw [r.length])⟩
    | str z =>
      change (if z.length ≤ 16777216 then some (PyData.int z.length) else none) = some d at hg
      by_cases hl : z.length ≤ 16777216
      · rw [if_pos hl] at hg
        cases hg
        cases (show v = .str z from r)
        exact ⟨_, z.length, rfl, ⟨line_le hl, rfl⟩, q _ H (Same.refl H) rfl⟩
      · rw [if_neg hl] at hg; cases hg
    | _ => cases hg
  | [], _, hg => cases hg
  | _ :: _ :: _, _, hg => simp [gLen] at hg
theorem cd_int : CallD K .v (fun xs H Q => (∃ i, xs = [.int i] ∧ Q (.int i) H) ∨ ∃ k, xs = [.bl k] ∧ Q (.int (if k then 1 else 0)) H) gInt := by
  intro W A σ H env P vs ds d Q k rs hg q
  match ds, rs, hg with
  | [d0], rs, hg =>
    obtain ⟨v, rfl, r⟩ := one_arg rs
    cases d0 with
    | int i => cases hg; cases (show v = .int i from r); exact .inl ⟨i, rfl, q _ H (Same.refl H) rfl⟩
    | bool b => cases hg; cases (show v = .bl b from r); exact .inr ⟨b, rfl, q _ H (Same.refl H) rfl⟩
    | _ => cases hg
  | [], _, hg => cases hg
  | _ :: _ :: _, _, hg => simp [gInt] at hg
end
end Vl
end
section
set_option autoImplicit false
set_option maxRecDepth 100000
/-! V5r: data, dicts among them, ads the model reads and shows them. -/
namespace Vl
open PySem L2

section
variable {X : Cx} {pins : List (Addr × Obj)} {σ : L2.St} {H : Hp} {s : Shared} {A : AS}
theorem key_rel {q : Key} {u : Value} (h : keyIs q u = true) : ∃ ads, Reads s.heap u (keyD q) ads := by
  rcases (keyIs_shape h) with ⟨i, t, rfl, rfl⟩ | ⟨x, t, rfl, rfl⟩
  · exact ⟨_, .int i t⟩
  · exact ⟨_, .str x t⟩
mutual
theorem Rep.reads (I : L2.Inv X pins σ H s) : ∀ (d : D) (v : V) (u : Value), Rep X.K A H d v → RelV v u → ∃ ads, Reads s.heap u d ads
  | .none, _, _, h, r => by
    cases (show _ = V.non from h)
    cases r
    exact ⟨_, .none⟩
  | .bool b, _, _, h, r => by
    cases (show _ = V.bl b from h)
    cases r
    exact ⟨_, .bool b⟩
  | .int i, _, _, h, r => by
    cases (show _ = V.int i from h)
    obtain ⟨t, rfl⟩ := r
    exact ⟨_, .int i t⟩
  | .str x, _, _, h, r => by
    cases (show _ = V.str x from h)
    obtain ⟨t, rfl⟩ := r
    exact ⟨_, .str x t⟩
  | .list ds, _, _, ⟨a, vs, e, l, q⟩, r => by
    subst e
    cases r
    obtain ⟨itz, rvz, ⟨o, n, ho, hc, _, hd⟩, _⟩ := I.list (l.sq (K := X.K))
    obtain ⟨ads, rds⟩ := Reps.reads I ds _ itz q rvz
    exact ⟨_, .list ho hc hd rds⟩
  | .tuple ds, _, _, ⟨a, vs, e, l, q⟩, r => by
    subst e
    cases r
    obtain ⟨itz, rvz, ⟨o, ho, hc, n, hd⟩, _⟩ := I.tuple l.sq
    obtain ⟨ads, rds⟩ := Reps.reads I ds _ itz q rvz
    exact ⟨_, .tuple ho hc hd rds⟩
  | .dict ds, _, _, ⟨a, kv, e, l, q⟩, r => by
    subst e
    cases r
    obtain ⟨_, _, vs, rel, o, es, ep, ho, hc, hd, _, hp, _⟩ := dk_of I.hok l.1
    obtain ⟨ads, bds, h1, h2⟩ := RepD.reads I ds kv es.toList vs q rel hp
    exact ⟨_, .dict ho hc.1 hd h1 h2⟩
theorem Reps.reads (I : L2.Inv X pins σ H s) : ∀ (ds : List D) (vs : List V) (us : List Value), Reps X.K A H ds vs → Vals vs us → ∃ ads, ReadsAll s.heap us ds ads
  | [], _, _, h, r => by
    cases (show _ = [] from h)
    cases r
    exact ⟨_, .nil⟩
  | d :: ds, _, _, ⟨v, t, e, h1, h2⟩, r => by
    subst e
    cases r with
    | cons rl1 rl2 =>
      obtain ⟨ads, q1⟩ := Rep.reads I d _ _ h1 rl1
      obtain ⟨bds, q2⟩ := Reps.reads I ds _ _ h2 rl2
      exact ⟨_, .cons q1 q2⟩
theorem RepD.reads (I : L2.Inv X pins σ H s) : ∀ (ds : List (D × D)) (kv : List (Key × V)) (es : List DictEntry) (vs : List (Key × Value)), RepD X.K A H ds kv → KV kv vs → Pairs (mixKind X.prog X.w) es vs →
    ∃ ads bds, ReadsAll s.heap (es.map (·.key)) (ds.map (·.1)) ads ∧ ReadsAll s.heap (es.map (·.val)) (ds.map (·.2)) bds
  | [], _, _, _, h, r, p => by
    cases (show _ = [] from h)
    cases r
    cases p
    exact ⟨_, _, .nil, .nil⟩
  | (k, d) :: ds, _, _, _, ⟨q, v, t, e, ek, h1, h2⟩, r, p => by
    subst e
    cases r with
    | cons rl1 rl2 =>
      cases p with
      | cons p1 p2 p3 =>
        obtain ⟨ads, bds, q1, q2⟩ := RepD.reads I ds _ _ _ h2 rl2 p3
        obtain ⟨cs, q3⟩ := Rep.reads I d v _ h1 rl1.2
        obtain ⟨e1, e2⟩ := rl1
        simp only at e1
        subst e1
        obtain ⟨ds', q4⟩ := key_rel (s := s) p1
        rw [← ek] at q4
        rw [← p2] at q3
        exact ⟨_, _, .cons q4 q1, .cons q3 q2⟩
end
abbrev Rk (X : Cx) (h : Heap) (u : Value) (d : D) : Prop := ∃ bds, ReadAtMost h d.depth bds ∧ ReprK X.prog X.w bds h d.depth u d.shown
theorem rk_key {q : Key} {u : Value} (h : keyIs q u = true) (hs : (keyD q).showable = true) (hz : (keyD q).shown.length ≤ sizeLine) : Rk X s.heap u (keyD q) := by
  rcases (keyIs_shape h) with ⟨i, t, rfl, rfl⟩ | ⟨x, t, rfl, rfl⟩
  · exact ReprK.of_reads (.int i t) hs (fun z => nomatch z) hz
  · exact ReprK.of_reads (.str x t) hs (fun z => nomatch z) hz
theorem rk_app {d : D} {ds : List D} {u : Value} {us : List Value} (h1 : Rk X s.heap u d) (h2 : ∃ bds, ReadAtMost s.heap (PyData.depthAll ds) bds ∧ ReprAllK X.prog X.w bds s.heap (PyData.depthAll ds) us (PyData.shownAll ds)) :
    ∃ bds, ReadAtMost s.heap (PyData.depthAll (d :: ds)) bds ∧ ReprAllK X.prog X.w bds s.heap (PyData.depthAll (d :: ds)) (u :: us) (PyData.shownAll (d :: ds)) := by
  obtain ⟨b1, hb1, k1⟩ := h1
  obtain ⟨b2, hb2, k2⟩ := h2
  refine ⟨b1 ++ b2, (hb1.mono ?_).append (hb2.mono ?_), ?_⟩
  · simp only [PyData.depthAll]; exact Nat.le_max_left _ _
  · simp only [PyData.depthAll]; exact Nat.le_max_right _ _
  · simp only [PyData.shownAll, PyData.depthAll]
    exact .cons ((k1.more fun b rmo => List.mem_append_left _ rmo).level_le (Nat.le_max_left _ _)) (k2.more_le (fun b rmo => List.mem_append_right _ rmo) (Nat.le_max_right _ _))
mutual
theorem Rep.rk (I : L2.Inv X pins σ H s) : ∀ (d : D) (v : V) (u : Value), Rep X.K A H d v → RelV v u → d.showable = true → d.shown.length ≤ sizeLine → Rk X s.heap u d
  | .none, _, _, h, r, hs, hz => by
    cases (show _ = V.non from h)
    cases r
    exact ReprK.of_reads .none hs (fun z => nomatch z) hz
  | .bool b, _, _, h, r, hs, hz => by
    cases (show _ = V.bl b from h)
    cases r
    exact ReprK.of_reads (.bool b) hs (fun z => nomatch z) hz
  | .int i, _, _, h, r, hs, hz => by
    cases (show _ = V.int i from h)
    obtain ⟨t, rfl⟩ := r
    exact ReprK.of_reads (.int i t) hs (fun z => nomatch z) hz
  | .str x, _, _, h, r, hs, hz => by
    cases (show _ = V.str x from h)
    obtain ⟨t, rfl⟩ := r
    exact ReprK.of_reads (.str x t) hs (fun z => nomatch z) hz
  | .list ds, _, _, ⟨a, vs, e, l, q⟩, r, hs, hz => by
    subst e
    cases r
    have hzz : (listText (PyData.shownAll ds)).length ≤ sizeLine := by simpa only [PyData.shown] using hz
    obtain ⟨itz, rvz, ⟨o, n, ho, hc, _, hd⟩, _⟩ := I.list (l.sq (K := X.K))
    obtain ⟨ads, rds⟩ := Reps.reads I ds _ itz q rvz
    obtain ⟨bds, rmo, rks⟩ := Reps.rk I ds _ itz q rvz (by simpa [PyData.showable] using hs) fun t ht => Nat.le_trans (listText_mem_le ht) hzz
    have rdd : Reads s.heap (.ref a) (.list ds) _ := .list ho hc hd rds
    have nin : a ∉ bds := not_mem_of_deeper rdd (by simp only [PyData.depth]; omega) rmo
    refine ⟨a :: bds, ReadAtMost.cons rdd (by simp only [PyData.depth]; omega) rmo, ?_⟩
    simp only [PyData.shown, PyData.depth]
    cases itz with
    | nil =>
      cases rds
      simp only [listText_nil, PyData.shownAll]
      exact ReprK.listEmpty ho hc hd
    | cons x l => exact ReprK.list ho hc hd nin (by simpa using rks.length_eq) (fun i y e => rks.item i y (by simpa using e))
  | .tuple ds, _, _, ⟨a, vs, e, l, q⟩, r, hs, hz => by
    subst e
    cases r
    have hzz : (tupleText (PyData.shownAll ds)).length ≤ sizeLine := by simpa only [PyData.shown] using hz
    obtain ⟨itz, rvz, ⟨o, ho, hc, n, hd⟩, _⟩ := I.tuple l.sq
    obtain ⟨ads, rds⟩ := Reps.reads I ds _ itz q rvz
    obtain ⟨bds, rmo, rks⟩ := Reps.rk I ds _ itz q rvz (by simpa [PyData.showable] using hs) fun t ht => Nat.le_trans (tupleText_mem_le ht) hzz
    have rdd : Reads s.heap (.ref a) (.tuple ds) _ := .tuple ho hc hd rds
    have nin : a ∉ bds := not_mem_of_deeper rdd (by simp only [PyData.depth]; omega) rmo
    refine ⟨a :: bds, ReadAtMost.cons rdd (by simp only [PyData.depth]; omega) rmo, ?_⟩
    simp only [PyData.shown, PyData.depth]
    exact ReprK.tuple ho hc hd nin (by simpa using rks)
  | .dict ds, _, _, ⟨a, kv, e, l, q⟩, r, hs, hz => by
    subst e
    cases r
    have hzz : (dictText (PyData.shownKv ds)).length ≤ sizeLine := by simpa only [PyData.shown] using hz
    obtain ⟨hs1, hs2⟩ := PyData.showableKv_split ds (by simpa [PyData.showable] using hs)
    obtain ⟨_, hsys, vs, rel, o, es, ep, ho, hc, hd, _, hp, _⟩ := dk_of I.hok l.1
    obtain ⟨ads, bds, h1, h2⟩ := RepD.reads I ds kv es.toList vs q rel hp
    obtain ⟨⟨b1, hb1, k1⟩, ⟨b2, hb2, k2⟩⟩ := RepD.rk I ds kv es.toList vs q rel hp hs1 hs2
      (fun t ht => let ⟨p, hp, hl⟩ := PyData.shownKv_key_le ds t ht; Nat.le_trans hl (Nat.le_trans (dictText_mem_le hp) hzz))
      (fun t ht => let ⟨p, hp, hl⟩ := PyData.shownKv_val_le ds t ht; Nat.le_trans hl (Nat.le_trans (dictText_mem_le hp) hzz))
    have rdd : Reads s.heap (.ref a) (.dict ds) _ := .dict ho hc.1 hd h1 h2
    have rmo : ReadAtMost s.heap (PyData.depthKv ds) (b1 ++ b2) := (hb1.mono (PyData.depthAll_keys_le ds)).append (hb2.mono (PyData.depthAll_vals_le ds))
    have nin : a ∉ b1 ++ b2 := not_mem_of_deeper rdd (by simp only [PyData.depth]; omega) rmo
    refine ⟨a :: (b1 ++ b2), ReadAtMost.cons rdd (by simp only [PyData.depth]; omega) rmo, ?_⟩
    simp only [PyData.shown, PyData.shownKv_eq, PyData.depth]
    exact ReprK.dict ho hc.1 hd hsys nin (ReprEntriesK.of_two es.toList _ _
      (k1.more_le (fun b rmo => List.mem_append_left _ rmo) (PyData.depthAll_keys_le ds)) (k2.more_le (fun b rmo => List.mem_append_right _ rmo) (PyData.depthAll_vals_le ds)))
theorem Reps.rk (I : L2.Inv X pins σ H s) : ∀ (ds : List D) (vs : List V) (us : List Value), Reps X.K A H ds vs → Vals vs us → PyData.showableAll ds = true → (∀ t ∈ PyData.shownAll ds, t.length ≤ sizeLine) →
    ∃ bds, ReadAtMost s.heap (PyData.depthAll ds) bds ∧ ReprAllK X.prog X.w bds s.heap (PyData.depthAll ds) us (PyData.shownAll ds)
  | [], _, _, h, r, _, _ => by
    cases (show _ = [] from h)
    cases r
    exact ⟨[], (fun _ h => nomatch h), by simp only [PyData.shownAll]; exact .nil⟩
  | d :: ds, _, _, ⟨v, t, e, h1, h2⟩, r, hs, hz => by
    subst e
    have hss : d.showable = true ∧ PyData.showableAll ds = true := by simpa [PyData.showableAll] using hs
    cases r with
    | cons rl1 rl2 =>
      exact rk_app (Rep.rk I d _ _ h1 rl1 hss.1 (hz _ (by simp only [PyData.shownAll]; exact List.mem_cons_self ..)))
        (Reps.rk I ds _ _ h2 rl2 hss.2 fun t ht => hz t (by simp only [PyData.shownAll]; exact List.mem_cons_of_mem _ ht))
theorem RepD.rk (I : L2.Inv X pins σ H s) : ∀ (ds : List (D × D)) (kv : List (Key × V)) (es : List DictEntry) (vs : List (Key × Value)), RepD X.K A H ds kv → KV kv vs → Pairs (mixKind X.prog X.w) es vs →
    PyData.showableAll (ds.map (·.1)) = true → PyData.showableAll (ds.map (·.2)) = true → (∀ t ∈ PyData.shownAll (ds.map (·.1)), t.length ≤ sizeLine) → (∀ t ∈ PyData.shownAll (ds.map (·.2)), t.length ≤ sizeLine) →
    (∃ bds, ReadAtMost s.heap (PyData.depthAll (ds.map (·.1))) bds ∧ ReprAllK X.prog X.w bds s.heap (PyData.depthAll (ds.map (·.1))) (es.map (·.key)) (PyData.shownAll (ds.map (·.1)))) ∧
    (∃ bds, ReadAtMost s.heap (PyData.depthAll (ds.map (·.2))) bds ∧ ReprAllK X.prog X.w bds s.heap (PyData.depthAll (ds.map (·.2))) (es.map (·.val)) (PyData.shownAll (ds.map (·.2))))
  | [], _, _, _, h, r, p, _, _, _, _ => by
    cases (show _ = [] from h)
    cases r
    cases p
    exact ⟨⟨[], (fun _ h => nomatch h), by simp only [List.map_nil, PyData.shownAll]; exact .nil⟩, ⟨[], (fun _ h => nomatch h), by simp only [List.map_nil, PyData.shownAll]; exact .nil⟩⟩
  | (k, d) :: ds, _, _, _, ⟨q, v, t, e, ek, h1, h2⟩, r, p, s1, s2, z1, z2 => by
    subst e
    have s1' : k.showable = true ∧ PyData.showableAll (ds.map (·.1)) = true := by simpa [PyData.showableAll] using s1
    have s2' : d.showable = true ∧ PyData.showableAll (ds.map (·.2)) = true := by simpa [PyData.showableAll] using s2
    cases r with
    | cons rl1 rl2 =>
      cases p with
      | cons p1 p2 p3 =>
        obtain ⟨e1, e2⟩ := rl1
        simp only at e1
        subst e1
        obtain ⟨g1, g2⟩ := RepD.rk I ds _ _ _ h2 rl2 p3 s1'.2 s2'.2 (fun t ht => z1 t (by simp only [List.map_cons, PyData.shownAll]; exact List.mem_cons_of_mem _ ht)) (fun t ht => z2 t (by simp only [List.map_cons, PyData.shownAll]; exact List.mem_cons_of_mem _ ht))
        refine ⟨rk_app ?_ g1, rk_app ?_ g2⟩
        · have hz := z1 k.shown (by simp only [List.map_cons, PyData.shownAll]; exact List.mem_cons_self ..)
          rw [ek] at hz s1' ⊢
          exact rk_key p1 s1'.1 hz
        · show Rk X s.heap (DictEntry.val _) d
          rw [p2]
          exact Rep.rk I d v _ h1 e2 s2'.1 (z2 _ (by simp only [List.map_cons, PyData.shownAll]; exact List.mem_cons_self ..))
end
theorem Rep.shows (I : L2.Inv X pins σ H s) {d : D} {a : Addr} (h : Rep X.K A H d (.ref a)) (hs : d.showable = true) (hz : d.shown.length ≤ sizeLine) : ∃ T idr, ShowsBy X.prog X.w s.heap a d T idr := by
  cases d with
  | none => exact nomatch (show V.ref a = V.non from h)
  | bool b => exact nomatch (show V.ref a = V.bl b from h)
  | int i => exact nomatch (show V.ref a = V.int i from h)
  | str x => exact nomatch (show V.ref a = V.str x from h)
  | list ds =>
    obtain ⟨_, vs, e, l, q⟩ := h
    cases e
    have hzz : (listText (PyData.shownAll ds)).length ≤ sizeLine := by simpa only [PyData.shown] using hz
    obtain ⟨itz, rvz, ⟨o, n, ho, hc, _, hd⟩, _⟩ := I.list (l.sq (K := X.K))
    obtain ⟨ads, rds⟩ := Reps.reads I ds _ itz q rvz
    obtain ⟨bds, rmo, rks⟩ := Reps.rk I ds _ itz q rvz (by simpa [PyData.showable] using hs) fun t ht => Nat.le_trans (listText_mem_le ht) hzz
    have nin : a ∉ bds := not_mem_of_deeper (.list ho hc hd rds) (by simp only [PyData.depth]; omega) rmo
    refine ⟨"list", "list.__repr__", F.slot_list_repr.toG, F.slot_list_str, F.slot_list_format, fun s hk0 => ⟨o, hk0 _ _ ho, hc⟩, fun A E s Q hg hu hk0 hQ => ?_⟩
    simp only [PyData.depth, id] at hu
    simp only [PyData.shown, id] at hQ
    cases itz with
    | nil =>
      cases rds
      simp only [listText_nil, PyData.shownAll] at hQ
      exact call_list_repr_empty ⟨o, hk0 _ _ ho, hc⟩ (hk0 _ _ ho) hd (hQ s.heap _ _ fun _ _ e => e)
    | cons x l => exact call_list_reprK ho hc hd nin (by simpa using rks.length_eq) (fun i y e => rks.item i y (by simpa using e)) hg (fun b _ => Clear.nil b) hu hk0 hQ hzz
  | tuple ds =>
    obtain ⟨_, vs, e, l, q⟩ := h
    cases e
    have hzz : (tupleText (PyData.shownAll ds)).length ≤ sizeLine := by simpa only [PyData.shown] using hz
    obtain ⟨itz, rvz, ⟨o, ho, hc, n, hd⟩, _⟩ := I.tuple l.sq
    obtain ⟨ads, rds⟩ := Reps.reads I ds _ itz q rvz
    obtain ⟨bds, rmo, rks⟩ := Reps.rk I ds _ itz q rvz (by simpa [PyData.showable] using hs) fun t ht => Nat.le_trans (tupleText_mem_le ht) hzz
    have nin : a ∉ bds := not_mem_of_deeper (.tuple ho hc hd rds) (by simp only [PyData.depth]; omega) rmo
    refine ⟨"tuple", "tuple.__repr__", F.slot_tuple_repr, F.slot_tuple_str, F.slot_tuple_format, fun s hk0 => ⟨o, hk0 _ _ ho, hc⟩, fun A E s Q hg hu hk0 hQ => ?_⟩
    simp only [PyData.depth, id] at hu
    simp only [PyData.shown, id] at hQ
    exact call_tuple_reprK ho hc hd nin (by simpa using rks) hg (fun b _ => Clear.nil b) hu hk0 hQ hzz
  | dict ds =>
    obtain ⟨_, kv, e, l, q⟩ := h
    cases e
    have hzz : (dictText (PyData.shownKv ds)).length ≤ sizeLine := by simpa only [PyData.shown] using hz
    obtain ⟨hs1, hs2⟩ := PyData.showableKv_split ds (by simpa [PyData.showable] using hs)
    obtain ⟨_, hsys, vs, rel, o, es, ep, ho, hc, hd, _, hp, _⟩ := dk_of I.hok l.1
    obtain ⟨ads, bds, h1, h2⟩ := RepD.reads I ds kv es.toList vs q rel hp
    obtain ⟨⟨b1, hb1, k1⟩, ⟨b2, hb2, k2⟩⟩ := RepD.rk I ds kv es.toList vs q rel hp hs1 hs2
      (fun t ht => let ⟨p, hp, hl⟩ := PyData.shownKv_key_le ds t ht; Nat.le_trans hl (Nat.le_trans (dictText_mem_le hp) hzz))
      (fun t ht => let ⟨p, hp, hl⟩ := PyData.shownKv_val_le ds t ht; Nat.le_trans hl (Nat.le_trans (dictText_mem_le hp) hzz))
    have rmo : ReadAtMost s.heap (PyData.depthKv ds) (b1 ++ b2) := (hb1.mono (PyData.depthAll_keys_le ds)).append (hb2.mono (PyData.depthAll_vals_le ds))
    have nin : a ∉ b1 ++ b2 := not_mem_of_deeper (.dict ho hc.1 hd h1 h2) (by simp only [PyData.depth]; omega) rmo
    refine ⟨"dict", "dict.__repr__", F.slot_dict_repr, F.slot_dict_str, F.slot_dict_format, fun s hk0 => ⟨o, hk0 _ _ ho, hc.1⟩, fun A E s Q hg hu hk0 hQ => ?_⟩
    simp only [PyData.depth, id] at hu
    simp only [PyData.shownKv_eq, PyData.shown] at hQ
    exact call_dict_reprK ho hc.1 hd hsys nin (ReprEntriesK.of_two es.toList _ _
      (k1.more_le (fun b rmo => List.mem_append_left _ rmo) (PyData.depthAll_keys_le ds)) (k2.more_le (fun b rmo => List.mem_append_right _ rmo) (PyData.depthAll_vals_le ds))) hg (fun b _ => Clear.nil b) hu hk0 hQ (by rw [← PyData.shownKv_eq]; exact hzz)
/-- a list's own place may be anybody's -/
theorem RepB.rep {K : PySem.W.Frag} {pa : PL} {d : D} {v : V} (h : RepB K pa A H d v) : ∃ A', Rep K A' H d v := by
  cases d with
  | list ds =>
    obtain ⟨a, vs, e, l, q⟩ := h
    exact ⟨fun _ => False, a, vs, e, ⟨l.1, fun z => z⟩, Reps.mono (fun b u e _ n => ⟨e, fun z => z⟩) _ _ q⟩
  | _ => exact ⟨A, h⟩
end
end Vl
end
section
set_option autoImplicit false
set_option maxRecDepth 100000
/-! V6: list, tuple, all, any, repr, isinstance. -/
namespace Vl
open PySem L2

theorem paired_at {vs : List V} {us : List Value} (hl : vs.length = us.length) (h : ∀ (j : Nat) (x : V) (w : Value), vs[j]? = some x → us[j]? = some w → RelV x w) : Vals vs us := by
  induction vs generalizing us with
  | nil => cases us with
    | nil => exact .nil
    | cons _ _ => simp at hl
  | cons v vs ih => cases us with
    | nil => simp at hl
    | cons u us => exact .cons (h 0 v u rfl rfl) (ih (by simpa using hl) fun j x w h1 h2 => h (j + 1) x w (by simpa using h1) (by simpa using h2))
section
variable {X : Cx} {K : PySem.W.Frag}
/-- list(text) -/
def rListStr : List V → Hp → VK → Prop := fun xs H Q => ∃ z : Str, xs = [.str z] ∧ z.length ≤ 16777216 ∧ ∀ p, H p = none → Q (.ref p) (upd H p (.lst (z.cps.toList.map fun c => .str ⟨#[c]⟩)))
theorem call_liststr (hc : X.calm = true) : CallR X (.type "list") rListStr := by
  intro pins s σ H xs; intro us Q I r h
  obtain ⟨z, rfl, hz, q⟩ := h
  obtain ⟨u, rfl, t, rfl⟩ := (vals1 r)
  refine call_list_str (I.ok.hd hc) z t (hn := line_le hz) fun h' tk acc' c' hk hS hacc => ?_
  refine ⟨.ref s.heap.objs.size, upd H s.heap.objs.size (.lst (z.cps.toList.map fun c => .str ⟨#[c]⟩)), I.laid hk (Nat.le_refl _) (show ObjOk X.prog X.w _ _ _ (.lst _) from ⟨?_, acc'.toList, c', ?_, ?_⟩), rfl, q _ (I.hok.fresh (Nat.le_refl _))⟩
  · rw [List.length_map]; exact line_le hz
  · refine paired_at (by rw [List.length_map]; simp [hacc.1]) fun j x w h1 h2 => ?_
    obtain ⟨c, tk', e1, e2⟩ := hacc.2 j w (by rw [← Array.getElem?_toList]; exact h2)
    rw [List.getElem?_map, Array.getElem?_toList, e1] at h1
    cases h1
    exact ⟨tk', e2⟩
  · rw [hS]
def rListA (K : PySem.W.Frag) : List V → Hp → VK → Prop := fun xs H Q => (∃ p ys, xs = [.ref p] ∧ (SqL K H p ys ∨ SqT K H p ys) ∧ ∀ l, H l = none → Q (.ref l) (upd H l (.lst ys))) ∨ rListStr xs H Q
theorem cr_list (hc : X.calm = true) : CallR X (.type "list") (rListA X.K) := call_list_of.or (call_liststr hc)
theorem reps_signs {A : AS} {H : Hp} : ∀ l : List Nat, Reps K A H (l.map signD) (l.map fun c => V.str ⟨#[c]⟩)
  | [] => rfl
  | c :: l => ⟨_, _, rfl, rfl, reps_signs l⟩
theorem cd_list : CallD K .f (rListA K) gList := by
  intro W A σ H env P vs ds d Q k rs hg q
  match ds, rs, hg with
  | [d0], rs, hg =>
    obtain ⟨v, rfl, r⟩ := one_arg rs
    cases d0 with
    | list xs =>
      cases hg
      obtain ⟨a, vs, rfl, l, r⟩ := r
      refine .inl ⟨a, vs, rfl, .inl l.sq, fun p hp => ?_⟩
      have s := same_upd (o := .lst vs) hp
      exact q _ _ s ⟨p, vs, xs, rfl, rfl, .of hp, upd_same, k.repsO hp r⟩
    | tuple xs =>
      cases hg
      obtain ⟨a, vs, rfl, l, r⟩ := r
      refine .inl ⟨a, vs, rfl, .inr l.sq, fun p hp => ?_⟩
      have s := same_upd (o := .lst vs) hp
      exact q _ _ s ⟨p, vs, xs, rfl, rfl, .of hp, upd_same, k.repsO hp r⟩
    | str z =>
      change (if z.length ≤ 16777216 then some (PyData.list (z.cps.toList.map signD)) else none) = some d at hg
      by_cases hl : z.length ≤ 16777216
      · rw [if_pos hl] at hg
        cases hg
        cases (show v = .str z from r)
        refine .inr ⟨z, rfl, hl, fun p hp => ?_⟩
        exact q _ _ (same_upd hp) ⟨p, _, _, rfl, rfl, .of hp, upd_same, reps_signs _⟩
      · rw [if_neg hl] at hg; cases hg
    | _ => cases hg
  | [], _, hg => cases hg
  | _ :: _ :: _, _, hg => simp [gList] at hg
theorem cd_tuple : CallD K .v (rTupleOf K) gTuple := by
  intro W A σ H env P vs ds d Q k rs hg q
  match ds, rs, hg with
  | [d0], rs, hg =>
    obtain ⟨v, rfl, r⟩ := one_arg rs
    cases d0 with
    | list xs =>
      cases hg
      obtain ⟨a, vs, rfl, l, r⟩ := r
      exact ⟨a, vs, rfl, .inl ⟨l.sq, nT_rep k r q⟩⟩
    | tuple xs =>
      cases hg
      obtain ⟨a, vs, rfl, l, r⟩ := r
      exact ⟨a, vs, rfl, .inr ⟨l.sq, q _ H (Same.refl H) ⟨a, vs, rfl, l, r⟩⟩⟩
    | _ => cases hg
  | [], _, hg => cases hg
  | _ :: _ :: _, _, hg => simp [gTuple] at hg
theorem reps_bools {A : AS} {H : Hp} : ∀ {xs : List D} {vs : List V} {bs : List Bool}, Reps K A H xs vs → boolsOf xs = some bs → vs = bs.map V.bl
  | [], vs, bs, h, e => by cases e; exact h
  | x :: xs, vs, bs, ⟨v, r, e1, h, t⟩, e => by
    cases x with
    | bool b =>
      change (boolsOf xs).map (b :: ·) = some bs at e
      cases hb : boolsOf xs with
      | none => rw [hb] at e; cases e
      | some cs =>
        rw [hb] at e
        cases e
        rw [e1, List.map_cons, ← reps_bools t hb, show v = V.bl b from h]
    | _ => cases e
theorem cd_all : CallD K .v (rAll K) gAll := by
  intro W A σ H env P vs ds d Q k rs hg q
  match ds, rs, hg with
  | [d0], rs, hg =>
    obtain ⟨v, rfl, r⟩ := one_arg rs
    cases d0 with
    | list xs =>
      change (boolsOf xs).map _ = some d at hg
      cases hb : boolsOf xs with
      | none => rw [hb] at hg; cases hg
      | some bs =>
        rw [hb] at hg
        cases hg
        obtain ⟨a, vs, rfl, l, r⟩ := r
        rw [reps_bools r hb] at l
        exact ⟨a, bs, rfl, l.sq, q _ H (Same.refl H) rfl⟩
    | _ => cases hg
  | [], _, hg => cases hg
  | _ :: _ :: _, _, hg => simp [gAll] at hg
theorem cd_any : CallD K .v (rAny K) gAny := by
  intro W A σ H env P vs ds d Q k rs hg q
  match ds, rs, hg with
  | [d0], rs, hg =>
    obtain ⟨v, rfl, r⟩ := one_arg rs
    cases d0 with
    | list xs =>
      change (boolsOf xs).map _ = some d at hg
      cases hb : boolsOf xs with
      | none => rw [hb] at hg; cases hg
      | some bs =>
        rw [hb] at hg
        cases hg
        obtain ⟨a, vs, rfl, l, r⟩ := r
        rw [reps_bools r hb] at l
        exact ⟨a, bs, rfl, l.sq, q _ H (Same.refl H) rfl⟩
    | _ => cases hg
  | [], _, hg => cases hg
  | _ :: _ :: _, _, hg => simp [gAny] at hg
/-- repr of data -/
def rRepr (K : PySem.W.Frag) : List V → Hp → VK → Prop := fun xs H Q => ∃ v d A, xs = [v] ∧ Rep K A H d v ∧ d.showable = true ∧ d.depth ≤ 64 ∧ d.shown.length ≤ 16777216 ∧ Q (.str d.shown) H
theorem cr_repr (hg : X.A.guards = some []) (hu : X.A.units + 65 < cLine) : CallR X (.builtin "repr") (rRepr X.K) := by
  intro pins s σ H xs; intro us Q I r h
  obtain ⟨v, d, A, rfl, hd, hs, hdep, hl, q⟩ := h
  obtain ⟨u, rfl, rv⟩ := vals1 r
  cases d with
  | none => cases (show v = .non from hd); cases rv; exact P.repr_of_none ⟨.str _, H, I.tok _, ⟨_, rfl⟩, q⟩
  | bool b => cases (show v = .bl b from hd); cases rv; exact P.repr_of_bool ⟨.str _, H, I.tok _, ⟨_, rfl⟩, q⟩
  | int i => cases (show v = .int i from hd); obtain ⟨t, rfl⟩ := rv; exact P.repr_of_int (of_decide_eq_true hs) ⟨.str _, H, I.tok _, ⟨_, rfl⟩, q⟩
  | str x => cases (show v = .str x from hd); obtain ⟨t, rfl⟩ := rv; exact P.repr_of_str ⟨.str _, H, I.tok _, ⟨_, rfl⟩, q⟩ (line_le hl)
  | list ds | tuple ds | dict ds =>
    obtain ⟨a, _, rfl, _⟩ := id hd
    cases rv
    obtain ⟨T, idr, S⟩ := Rep.shows I hd hs (line_le hl)
    refine call_repr_slot (by omega) (S.typeIs s fun _ _ e => e) S.slotRepr (S.call X.A.in1 X.xe s _ hg (by show X.A.units + 1 + _ < cLine; omega) (fun _ _ e => e) fun h' u tk hk => ⟨_, _, rfl, ?_⟩)
    exact ⟨.str _, H, I.kept hk, ⟨u, rfl⟩, q⟩
theorem cd_repr : CallD K .v (rRepr K) gRepr := by
  intro W A σ H env P vs ds d Q k rs hg q
  match ds, rs, hg with
  | [d0], rs, hg =>
    obtain ⟨v, rfl, r⟩ := one_arg rs
    change (if d0.showable = true ∧ d0.depth ≤ 64 ∧ d0.shown.length ≤ 16777216 then some (PyData.str d0.shown) else none) = some d at hg
    by_cases hc : d0.showable = true ∧ d0.depth ≤ 64 ∧ d0.shown.length ≤ 16777216
    · rw [if_pos hc] at hg
      cases hg
      obtain ⟨A', r'⟩ := RepB.rep r
      exact ⟨v, d0, A', rfl, r', hc.1, hc.2.1, hc.2.2, q _ H (Same.refl H) rfl⟩
    · rw [if_neg hc] at hg; cases hg
  | [], _, hg => cases hg
  | _ :: _ :: _, _, hg => simp [gRepr] at hg
end

/-! ### isinstance -/
def tyD : D → String
  | .none => "NoneType"
  | .bool _ => "bool"
  | .int _ => "int"
  | .str _ => "str"
  | .list _ => "list"
  | .tuple _ => "tuple"
  | .dict _ => "dict"
theorem ty_of {K : PySem.W.Frag} {pa : PL} {A : AS} {H : Hp} {d : D} {v : V} (r : RepB K pa A H d v) : TyX K H v (.type (tyD d)) := by
  cases d with
  | none => cases (show v = _ from r); exact .base .non
  | bool b => cases (show v = _ from r); exact .base (.bl b)
  | int i => cases (show v = _ from r); exact .base (.int i)
  | str z => cases (show v = _ from r); exact .base (.str z)
  | list xs => obtain ⟨a, vs, rfl, l, _⟩ := r; exact .base (.lst l.1)
  | tuple xs =>
    obtain ⟨a, vs, rfl, l, _⟩ := r
    rcases l with ⟨o, l, _⟩ | ⟨o, its, n, h1, h2, _⟩
    · exact .fTuple l
    · exact .kTuple h1 h2
  | dict _ => obtain ⟨a, vs, rfl, l, _⟩ := r; exact .base (.dK l.1)
/-- isinstance against a written class, against a written tuple of classes -/
def isD (T : String) (d : D) : Bool := tyD d == T || (T == "int" && tyD d == "bool")
def dIsi (T : String) (f : Env → M D) : Env → M D := fun env => bnd (f env) fun d => ret (.bool (isD T d))
def dIsiT (Ts : List String) (f : Env → M D) : Env → M D := fun env => bnd (f env) fun d => ret (.bool (Ts.any fun T => isD T d))
def tyNames : List String := ["int", "str", "bool", "list", "tuple", "dict"]
theorem kit_tab : ∀ t ∈ "NoneType" :: tyNames, ∀ T ∈ tyNames, kitB t T = some (t == T || (T == "int" && t == "bool")) := by decide +kernel
theorem tyD_mem (d : D) : tyD d ∈ "NoneType" :: tyNames := by cases d <;> simp [tyD, tyNames]
theorem kit_all {K : PySem.W.Frag} (d : D) (T : String) (h : T ∈ tyNames) : PySem.W.kitOne K (.type (tyD d)) (.type T) = some (isD T d) := kit_ty (kit_tab _ (tyD_mem d) T h)
theorem kit_any {K : PySem.W.Frag} (d : D) : ∀ Ts : List String, (∀ T ∈ Ts, T ∈ tyNames) → PySem.W.kitAny K (.type (tyD d)) (Ts.map Value.type) = some (Ts.any fun T => isD T d)
  | [], _ => kitAny_nil
  | T :: Ts, h => by
    rw [List.map_cons, List.any_cons]
    refine kitAny_cons (kit_all d T (h T List.mem_cons_self)) (fun e => ?_) fun e => ?_
    · rw [e, Bool.false_or]
      exact kit_any d Ts fun T hT => h T (List.mem_cons_of_mem _ hT)
    · rw [e, Bool.true_or]
section
variable {Ex : Str → Hp → Prop} {X : Cx} {pos p p2 : Pos} {e : Expr} {fa : Env → M D} {x c : Str} {T : String}
theorem x_isi (ha : XE Ex X .b e fa) (hT : T ∈ tyNames) (hm : X.mg x = none) (hv : bootBuiltins x = some (.builtin "isinstance")) (hmT : X.mg c = none) (hvT : bootBuiltins c = some (.type T)) (hg : Gl X x := by rfl) (hgT : Gl X c := by rfl) (hn : x ≠ "__name__" := by decide) (hnT : c ≠ "__name__" := by decide)
    (hdb : ((x == ("__debug__" : Str))) = false := by decide) (hdbT : (c == ("__debug__" : Str)) = false := by decide) (h1 : starEach [e, .Name c p2] X.env = (false, eval e X.env) :: starEach [.Name c p2] X.env := by rfl)
    (h2 : starEach [Expr.Name c p2] X.env = (false, eval (.Name c p2) X.env) :: starEach [] X.env := by rfl) (hpl : (backTo pos (starEach [Expr.Name c p2] X.env)).any (·.1) = false := by rfl) : XE Ex X .v (.Call (.Name x p) [e, .Name c p2] [] pos) (dIsi T fa) := by
  obtain ⟨t, ht, q⟩ := ha
  refine ⟨_, pe_callB call_isi hg hm hv (pa_cons ht (pa_cons (pe_bltn (v := .ty T) hgT hmT hvT rfl hnT hdbT) pa_nil h2) h1) hn hdb h1 hpl, fun W A σ H env P Q k p => ?_⟩
  refine q W A σ H env P _ k ((PostG.bnd k p).mono ?_)
  rintro d _ H1 _ _ ⟨P1, e1, p1, k1, post⟩ v r
  exact ⟨v, .ty T, _, _, _, rfl, .ty T, ty_of r, kit_all d T hT, post_here post p1 e1 _ rfl⟩
end
end Vl
end
section
set_option autoImplicit false
set_option maxRecDepth 100000
/-! V7: statements. -/
namespace Vl
open PySem L2

inductive Fl where
  | nx (e : Env)
  | rt (d : D)
  | bk (e : Env)
  | ct (e : Env)
def PostS (K : PySem.W.Frag) (Ex : Str → Hp → Prop) (kd : Kd) (W : Wd) (r : R Fl) (De : Ends) : Prop := match r with
  | .ok (.nx env') P' => ∀ A σ H, EOk K W A σ H env' P' → De.nx σ H
  | .ok (.bk env') P' => ∀ A σ H, EOk K W A σ H env' P' → De.bk σ H
  | .ok (.ct env') P' => ∀ A σ H, EOk K W A σ H env' P' → De.ct σ H
  | .ok (.rt d) P' => ∀ v H', HExt W.pa W.H0 H' → PenOk W.pa H' P' → rel K W.pa W.A0 W.H0 H' d v kd → De.rt v H'
  | .ex c P' => ∀ H', HExt W.pa W.H0 H' → PenOk W.pa H' P' → Ex c H'
  | .no => False
def SdS (K : PySem.W.Frag) (Ex : Str → Hp → Prop) (kd : Kd) (t : TS) (f : Env → M Fl) : Prop := ∀ W A σ H env P De, EOk K W A σ H env P → PostS K Ex kd W (f env P) De → t De σ H
def XS (Ex : Str → Hp → Prop) (kd : Kd) (X : Cx) (st : Stmt) (f : Env → M Fl) : Prop := ∃ t, PS X st t ∧ SdS X.K Ex kd t f
def XSs (Ex : Str → Hp → Prop) (kd : Kd) (X : Cx) (st : List Stmt) (f : Env → M Fl) : Prop := ∃ t, PSs X st t ∧ SdS X.K Ex kd t f

/-- an expression inside a statement -/
theorem PostS.bnd {α : Type} {K : PySem.W.Frag} {Ex : Str → Hp → Prop} {kd : Kd} {W : Wd} {A : AS} {σ : L2.St} {H : Hp} {env : Env} {P : Pen} {m : M α} {g : α → M Fl} {De : Ends} (k : EOk K W A σ H env P) (h : PostS K Ex kd W (bnd m g P) De) :
    PostG Ex W.pa H (m P) (fun a H1 => ∃ P1, HExt W.pa H H1 ∧ PenOk W.pa H1 P1 ∧ EOk K W A σ H1 env P1 ∧ PostS K Ex kd W (g a P1) De) := by
  unfold Vl.bnd at h
  cases hm : m P with
  | ok a P1 => rw [hm] at h; exact fun H1 e1 p1 => ⟨P1, e1, p1, k.ext e1 p1, h⟩
  | ex c P1 => rw [hm] at h; exact fun H1 e1 p1 => h H1 (k.base.trans e1) p1
  | no => rw [hm] at h; exact h
/-- a statement ahead of statements -/
theorem PostS.bndS {K : PySem.W.Frag} {Ex : Str → Hp → Prop} {kd : Kd} {W : Wd} {r : R Fl} {De De' : Ends} (h : PostS K Ex kd W r De')
    (h1 : ∀ e P', r = .ok (.nx e) P' → ∀ A σ H, EOk K W A σ H e P' → De'.nx σ H → De.nx σ H) (h2 : De'.bk = De.bk) (h3 : De'.ct = De.ct) (h4 : De'.rt = De.rt) : PostS K Ex kd W r De := by
  cases r with
  | ok f P' => cases f with
    | nx e => exact fun A σ H k => h1 e P' rfl A σ H k (h A σ H k)
    | bk e => exact fun A σ H k => h2 ▸ h A σ H k
    | ct e => exact fun A σ H k => h3 ▸ h A σ H k
    | rt d => exact fun v H' e p r => h4 ▸ h v H' e p r
  | ex c P' => exact h
  | no => exact h

/-! ### slots stored -/
section
variable {K : PySem.W.Frag} {W : Wd} {A : AS} {σ : L2.St} {H : Hp} {env : Env} {P : Pen}
theorem EOk.setU (k : EOk K W A σ H env P) (i : Nat) (o : Option V) : EOk K W A (σ.set i o) H (env.set i .un) P := by
  refine ⟨by rw [List.length_set, List.length_set, k.len], fun j o' s h1 h2 => ?_, fun j l ds es a hn h1 h2 h3 => ?_, fun j ds a h1 h2 => ?_, k.sub, k.a0, k.trk, k.penA, k.pen, k.base, k.keep⟩
  · by_cases e : i = j
    · subst e
      rw [List.getElem?_set] at h2
      split at h2
      · split at h2 <;> cases h2
        trivial
      · exact absurd rfl ‹_›
    · rw [List.getElem?_set_ne e] at h1 h2
      exact k.slot j o' s h1 h2
  · have ej : i ≠ j := fun e => by
      subst e
      rw [List.getElem?_set] at h1
      split at h1 <;> first | (split at h1 <;> cases h1) | exact absurd rfl ‹_›
    have el : i ≠ l := fun e => by
      subst e
      rw [List.getElem?_set] at h2
      split at h2 <;> first | (split at h2 <;> cases h2) | exact absurd rfl ‹_›
    rw [List.getElem?_set_ne ej] at h1 h3
    rw [List.getElem?_set_ne el] at h2 ⊢
    exact k.inj j l ds es a hn h1 h2 h3
  · have ej : i ≠ j := fun e => by
      subst e
      rw [List.getElem?_set] at h1
      split at h1 <;> first | (split at h1 <;> cases h1) | exact absurd rfl ‹_›
    rw [List.getElem?_set_ne ej] at h1 h2
    exact k.fresh j ds a h1 h2
theorem set_at {α : Type} {l : List α} {i j : Nat} {x y : α} (h : (l.set i x)[j]? = some y) : (i = j ∧ i < l.length ∧ y = x) ∨ (i ≠ j ∧ l[j]? = some y) := by
  by_cases e : i = j
  · subst e
    have hl : i < l.length := by
      have := (List.getElem?_eq_some_iff.mp h).1
      rwa [List.length_set] at this
    rw [List.getElem?_set_self hl] at h
    exact .inl ⟨rfl, hl, (Option.some.inj h).symm⟩
  · rw [List.getElem?_set_ne e] at h
    exact .inr ⟨e, h⟩
theorem EOk.setV (k : EOk K W A σ H env P) (i : Nat) {d : D} {v : V} (r : Rep K A H d v) : EOk K W A (σ.set i (some v)) H (env.set i (.v d)) P := by
  refine ⟨by rw [List.length_set, List.length_set, k.len], fun j o' s h1 h2 => ?_, fun j l ds es a hn h1 h2 h3 => ?_, fun j ds a h1 h2 => ?_, k.sub, k.a0, k.trk, k.penA, k.pen, k.base, k.keep⟩
  · rcases set_at h2 with ⟨rfl, hl, rfl⟩ | ⟨e, h2⟩
    · rcases set_at h1 with ⟨_, _, rfl⟩ | ⟨e, _⟩
      · exact ⟨v, rfl, r⟩
      · exact absurd rfl e
    · rw [List.getElem?_set_ne e] at h1
      exact k.slot j o' s h1 h2
  · rcases set_at h1 with ⟨_, _, e⟩ | ⟨ej, h1⟩
    · cases e
    rcases set_at h2 with ⟨_, _, e⟩ | ⟨el, h2⟩
    · cases e
    rw [List.getElem?_set_ne ej] at h3
    rw [List.getElem?_set_ne el]
    exact k.inj j l ds es a hn h1 h2 h3
  · rcases set_at h1 with ⟨_, _, e⟩ | ⟨ej, h1⟩
    · cases e
    rw [List.getElem?_set_ne ej] at h2
    exact k.fresh j ds a h1 h2
theorem stay_sub {A' : AS} (h : ∀ a o, H a = some o → A' a → A a) : Stay A A' H H := fun a u e _ n => ⟨e, fun z => n (h a u e z)⟩
/-- a new list comes to stand in a slot as its own -/
theorem EOk.setO {H' : Hp} {P' : Pen} (k : EOk K W A σ H env P) (e : HExt W.pa H H') (p' : PenOk W.pa H' P') (i : Nat) {ds : List D} {vs : List V} {a : Addr} (hn : New H a) (hl : H' a = some (.lst vs)) (r : Reps K (ad A a) H' ds vs) :
    EOk K W (ad A a) (σ.set i (some (.ref a))) H' (env.set i (.own ds)) P' := by
  have k' := k.ext e p'
  have nA : ¬ A a := k.newN hn
  have st : Stay A (ad A a) H H' := fun b u h t n => ⟨(stay_ext e k.penA b u h t n).1, fun z => z.elim n fun z => by subst z; exact hn u h t⟩
  have h0 : New W.H0 a := fun o q t => by
    by_cases hp : Pn W.pa a
    · obtain ⟨c, z⟩ := hp
      exact absurd (k.penA _ _ z).1 nA
    · exact hn o (k.base a o q hp t) t
  have np : ∀ p c, W.pa.pen = some (p, c) → a ≠ p ∧ a ≠ c := fun p c z => ⟨fun y => nA (y ▸ (k.penA _ _ z).1), fun y => nA (y ▸ (k.penA _ _ z).2)⟩
  have old : ∀ (j : Nat) (es : List D) (b : Addr), env[j]? = some (SV.own es) → σ[j]? = some (some (V.ref b)) → b ≠ a := fun j es b h1 h2 z => by
    obtain ⟨o, e1, b', vs', e2, hb, _⟩ := k.at h1
    rw [e1] at h2
    cases h2
    cases e2
    exact nA (z ▸ hb)
  refine ⟨by rw [List.length_set, List.length_set, k.len], fun j o' s h1 h2 => ?_, fun j l es fs b hn' h1 h2 h3 => ?_, fun j es b h1 h2 => ?_, fun b z => .inl (k.sub b z), k.a0, fun b z => ?_, fun p c z => ⟨.inl (k.penA p c z).1, .inl (k.penA p c z).2⟩, p', k'.base, fun g hg => Rep.mono st _ _ (k.keep g hg)⟩
  · rcases set_at h2 with ⟨rfl, hl', rfl⟩ | ⟨ej, h2⟩
    · rcases set_at h1 with ⟨_, _, rfl⟩ | ⟨ej, _⟩
      · exact ⟨a, vs, rfl, .inr rfl, np, hl, r⟩
      · exact absurd rfl ej
    · rw [List.getElem?_set_ne ej] at h1
      have q := k.slot j o' s h1 h2
      cases s with
      | un => trivial
      | v d => obtain ⟨x, e1, r⟩ := q; exact ⟨x, e1, Rep.mono st _ _ r⟩
      | own es =>
        obtain ⟨b, us, e1, hb, hp, hl2, r2⟩ := q
        exact ⟨b, us, e1, .inl hb, hp, e.at hl2 fun ⟨c, z⟩ => (hp _ _ z).1 rfl, Reps.mono st _ _ r2⟩
      | pen => exact q
      | scr ns => obtain ⟨x, e1', r⟩ := q; exact ⟨x, e1', r.mono st⟩
  · rcases set_at h1 with ⟨rfl, hi, e1⟩ | ⟨ej, h1⟩
    · rcases set_at h2 with ⟨e2, _, _⟩ | ⟨el, h2⟩
      · exact absurd e2 hn'
      · rcases set_at h3 with ⟨_, _, e3⟩ | ⟨ej, _⟩
        · cases e3
          rw [List.getElem?_set_ne el]
          intro z
          exact old l fs a h2 z rfl
        · exact absurd rfl ej
    · rw [List.getElem?_set_ne ej] at h3
      rcases set_at h2 with ⟨rfl, hi, e2⟩ | ⟨el, h2⟩
      · intro z
        rcases set_at z with ⟨_, _, e3⟩ | ⟨el, _⟩
        · cases e3
          exact old j es a h1 h3 rfl
        · exact absurd rfl el
      · rw [List.getElem?_set_ne el]
        exact k.inj j l es fs b hn' h1 h2 h3
  · rcases set_at h1 with ⟨rfl, hi, e1⟩ | ⟨ej, h1⟩
    · rcases set_at h2 with ⟨_, _, e2⟩ | ⟨ej, _⟩
      · cases e2
        exact h0
      · exact absurd rfl ej
    · rw [List.getElem?_set_ne ej] at h2
      exact k.fresh j es b h1 h2
  · rcases z with z | z
    · exact k'.trk b z
    · exact ⟨_, z ▸ hl, nt_lst⟩
/-- an own list is changed -/
theorem EOk.write (k : EOk K W A σ H env P) {i : Nat} {ds es : List D} {a : Addr} {vs : List V} (he : env[i]? = some (.own ds)) (hs : σ[i]? = some (some (.ref a))) (r : Reps K A H es vs) :
    EOk K W A σ (upd H a (.lst vs)) (env.set i (.own es)) P := by
  obtain ⟨o, e1, b, us, e2, ha, np, hl, _⟩ := k.at he
  rw [e1] at hs
  cases hs
  cases e2
  have st : Stay A A H (upd H a (.lst vs)) := fun b u h _ n => ⟨(upd_ne (fun z => by subst z; exact n ha)).trans h, n⟩
  have nP : ∀ p c, W.pa.pen = some (p, c) → p ≠ a ∧ c ≠ a := fun p c z => ⟨fun y => (np p c z).1 y.symm, fun y => (np p c z).2 y.symm⟩
  refine ⟨by rw [List.length_set, k.len], fun j o' s h1 h2 => ?_, fun j l es' fs b hn' h1 h2 h3 => ?_, fun j es' b h1 h2 => ?_, k.sub, k.a0, fun b z => ?_, k.penA, ⟨fun p c z => ?_, tabs_upd k.pen.2.1 (by rw [hl]; trivial), k.pen.2.2⟩, fun b o h np' nt' => ?_, fun g hg => Rep.mono st _ _ (k.keep g hg)⟩
  · rcases set_at h2 with ⟨rfl, hi, rfl⟩ | ⟨ej, h2⟩
    · rw [e1] at h1
      cases h1
      exact ⟨a, vs, rfl, ha, np, upd_same, Reps.mono st _ _ r⟩
    · have q := k.slot j o' s h1 h2
      cases s with
      | un => trivial
      | v d => obtain ⟨x, e1, r⟩ := q; exact ⟨x, e1, Rep.mono st _ _ r⟩
      | own fs =>
        obtain ⟨b, us', e3, hb, hp, hl2, r2⟩ := q
        subst e3
        have hne : b ≠ a := fun z => by
          subst z
          exact k.inj i j ds fs b ej he h2 e1 h1
        exact ⟨b, us', rfl, hb, hp, by rw [upd_ne hne]; exact hl2, Reps.mono st _ _ r2⟩
      | pen => exact q
      | scr ns => obtain ⟨x, e1', r⟩ := q; exact ⟨x, e1', r.mono st⟩
  · have g1 : ∃ es', env[j]? = some (.own es') := by
      rcases set_at h1 with ⟨rfl, _, _⟩ | ⟨_, h1⟩
      · exact ⟨_, he⟩
      · exact ⟨_, h1⟩
    have g2 : ∃ es', env[l]? = some (.own es') := by
      rcases set_at h2 with ⟨rfl, _, _⟩ | ⟨_, h2⟩
      · exact ⟨_, he⟩
      · exact ⟨_, h2⟩
    obtain ⟨x1, g1⟩ := g1
    obtain ⟨x2, g2⟩ := g2
    exact k.inj j l x1 x2 b hn' g1 g2 h3
  · rcases set_at h1 with ⟨rfl, _, _⟩ | ⟨_, h1⟩
    · exact k.fresh _ _ b he h2
    · exact k.fresh _ _ b h1 h2
  · by_cases hb : b = a
    · subst hb; exact ⟨_, upd_same, nt_lst⟩
    · rw [upd_ne hb]; exact k.trk b z
  · obtain ⟨q1, q2, q3⟩ := k.pen.1 p c z
    exact ⟨q1, by rw [upd_ne (nP p c z).1]; exact q2, by rw [upd_ne (nP p c z).2]; exact q3⟩
  · have hb : (b ≠ a) := fun z => by
      subst z
      exact k.fresh i ds b he e1 _ h nt'
    rw [upd_ne hb]
    exact k.base b o h np' nt'
/-- an own list is let go: from now on nobody's -/
theorem EOk.share (k : EOk K W A σ H env P) {i : Nat} {ds : List D} (he : env[i]? = some (.own ds)) : ∃ A', (∀ b, A' b → A b) ∧ EOk K W A' σ H (env.set i (.v (.list ds))) P := by
  obtain ⟨o, e1, a, us, rfl, ha, np, hl, r⟩ := k.at he
  refine ⟨fun b => A b ∧ b ≠ a, fun b z => z.1, ?_⟩
  have st : Stay A (fun b => A b ∧ b ≠ a) H H := fun b u h _ n => ⟨h, fun z => n z.1⟩
  refine ⟨by rw [List.length_set, k.len], fun j o' s h1 h2 => ?_, fun j l es' fs b hn' h1 h2 h3 => ?_, fun j es' b h1 h2 => ?_, fun b z => ⟨k.sub b z, fun y => ?_⟩, k.a0, fun b z => k.trk b z.1, fun p c z => ⟨⟨(k.penA p c z).1, (np p c z).1.symm⟩, (k.penA p c z).2, (np p c z).2.symm⟩, k.pen, k.base, fun g hg => Rep.mono st _ _ (k.keep g hg)⟩
  · rcases set_at h2 with ⟨rfl, hi, rfl⟩ | ⟨ej, h2⟩
    · rw [e1] at h1
      cases h1
      exact ⟨_, rfl, a, us, rfl, ⟨hl, fun z => z.2 rfl⟩, Reps.mono st _ _ r⟩
    · have q := k.slot j o' s h1 h2
      cases s with
      | un => trivial
      | v d => obtain ⟨x, e1, r⟩ := q; exact ⟨x, e1, Rep.mono st _ _ r⟩
      | own fs =>
        obtain ⟨b, us', rfl, hb, hp, hl2, r2⟩ := q
        refine ⟨b, us', rfl, ⟨hb, fun z => ?_⟩, hp, hl2, Reps.mono st _ _ r2⟩
        subst z
        exact k.inj i j ds fs b ej he h2 e1 h1
      | pen => exact q
      | scr ns => obtain ⟨x, e1', r⟩ := q; exact ⟨x, e1', r.mono st⟩
  · rcases set_at h1 with ⟨_, _, z⟩ | ⟨_, h1⟩
    · cases z
    rcases set_at h2 with ⟨_, _, z⟩ | ⟨_, h2⟩
    · cases z
    exact k.inj j l es' fs b hn' h1 h2 h3
  · rcases set_at h1 with ⟨_, _, z⟩ | ⟨_, h1⟩
    · cases z
    exact k.fresh j es' b h1 h2
  · subst y
    obtain ⟨o, ho, ht⟩ := k.a0 b z
    exact k.fresh i ds b he e1 o ho ht
end

/-! ### statements -/
def sNil : Env → M Fl := fun env => ret (.nx env)
def sSeq (f g : Env → M Fl) : Env → M Fl := fun env => bnd (f env) fun
  | .nx e => g e
  | o => ret o
def sExpr (f : Env → M D) : Env → M Fl := fun env => bnd (f env) fun _ => ret (.nx env)
def sSet (i : Nat) (f : Env → M D) : Env → M Fl := fun env => bnd (f env) fun d => ret (.nx (env.set i (.v d)))
def sOwn (i : Nat) (f : Env → M D) : Env → M Fl := fun env => bnd (f env) fun
  | .list ds => ret (.nx (env.set i (.own ds)))
  | _ => no
def sRet (f : Env → M D) : Env → M Fl := fun env => bnd (f env) fun d => ret (.rt d)
def sRetN : Env → M Fl := fun _ => ret (.rt .none)
def sRetO (i : Nat) : Env → M Fl := fun env => match env[i]? with
  | some (.own ds) => ret (.rt (.list ds))
  | _ => no
def sIf (c : Env → M Bool) (f g : Env → M Fl) : Env → M Fl := fun env => bnd (c env) fun b => if b then f env else g env
def sBreak : Env → M Fl := fun env => ret (.bk env)
def sCont : Env → M Fl := fun env => ret (.ct env)
/-- a ghost: the own list of slot i is let go -/
def sShare (i : Nat) (f : Env → M Fl) : Env → M Fl := fun env => match env[i]? with
  | some (.own ds) => f (env.set i (.v (.list ds)))
  | _ => f env
section
variable {Ex : Str → Hp → Prop} {kd : Kd} {X : Cx} {pos pos' : Pos} {st : Stmt} {sts a b : List Stmt} {e c : Expr} {f g : Env → M Fl} {fa : Env → M D} {fc : Env → M Bool} {x : Str}
theorem xs_nil : XSs Ex kd X [] sNil := ⟨_, pss_nil, fun W A σ H env P De k p => p A σ H k⟩
theorem xs_pass : XS Ex kd X (.Pass pos) sNil := ⟨_, ps_pass, fun W A σ H env P De k p => p A σ H k⟩
theorem xs_break : XS Ex kd X (.Break pos) sBreak := ⟨_, ps_break, fun W A σ H env P De k p => p A σ H k⟩
theorem xs_cont : XS Ex kd X (.Continue pos) sCont := ⟨_, ps_continue, fun W A σ H env P De k p => p A σ H k⟩
theorem xs_cons (h : XS Ex kd X st f) (h2 : XSs Ex kd X sts g) : XSs Ex kd X (st :: sts) (sSeq f g) := by
  obtain ⟨t, ht, q⟩ := h
  obtain ⟨u, hu, q2⟩ := h2
  refine ⟨_, pss_cons ht hu, fun W A σ H env P De k p => ?_⟩
  refine q W A σ H env P _ k ?_
  unfold sSeq bnd at p
  cases hf : f env P with
  | ok o P' =>
    rw [hf] at p
    cases o with
    | nx e => exact fun A' σ' H' k' => q2 W A' σ' H' e P' De k' p
    | bk e => exact p
    | ct e => exact p
    | rt d => exact p
  | ex c P' => rw [hf] at p; exact p
  | no => rw [hf] at p; exact p
theorem xs_one (h : XS Ex kd X st f) : XSs Ex kd X [st] f := by
  obtain ⟨t, ht, q⟩ := h
  exact ⟨_, pss_one ht, q⟩
theorem xs_expr (h : XE Ex X .b e fa) (hs : swapsWith e none pos.line X.env = pure false := by rfl) : XS Ex kd X (.Expr e pos) (sExpr fa) := by
  obtain ⟨t, ht, q⟩ := h
  refine ⟨_, ps_expr ht hs, fun W A σ H env P De k p => ?_⟩
  refine q W A σ H env P _ k ((PostS.bnd k p).mono ?_)
  rintro d _ H1 _ _ ⟨P1, e1, p1, k1, post⟩ v r
  exact post A σ H1 k1
theorem xs_set (i : Nat) (hN : X.N.Nodup) (h : XE Ex X .v e fa) (hi : X.N[i]? = some x := by rfl) (hx : Loc X.env.scope x := by first | exact Or.inl rfl | exact Or.inr rfl) (hs : swapsWith e (some (.Name x pos')) pos.line X.env = pure false := by rfl)
    (hf : X.fn x = true ∨ X.env.scope.names.lookup x = some .local := by first | exact .inl rfl | exact .inr rfl | assumption) : XS Ex kd X (.Assign [.Name x pos'] e pos) (sSet i fa) := by
  obtain ⟨t, ht, q⟩ := h
  refine ⟨_, ps_set hN hi hx ht hs hf, fun W A σ H env P De k p => ?_⟩
  refine q W A σ H env P _ k ((PostS.bnd k p).mono ?_)
  rintro d _ H1 _ _ ⟨P1, e1, p1, k1, post⟩ v r
  exact post A _ H1 (k1.setV i r)
theorem xs_own (i : Nat) (hN : X.N.Nodup) (h : XE Ex X .f e fa) (hi : X.N[i]? = some x := by rfl) (hx : Loc X.env.scope x := by first | exact Or.inl rfl | exact Or.inr rfl) (hs : swapsWith e (some (.Name x pos')) pos.line X.env = pure false := by rfl)
    (hf : X.fn x = true ∨ X.env.scope.names.lookup x = some .local := by first | exact .inl rfl | exact .inr rfl | assumption) : XS Ex kd X (.Assign [.Name x pos'] e pos) (sOwn i fa) := by
  obtain ⟨t, ht, q⟩ := h
  refine ⟨_, ps_set hN hi hx ht hs hf, fun W A σ H env P De k p => ?_⟩
  refine q W A σ H env P _ k ((PostS.bnd k p).mono ?_)
  rintro d _ H1 _ _ ⟨P1, e1, p1, k1, post⟩ v ⟨a, vs, ds, rfl, rfl, hn, hl, r⟩
  exact post _ _ H1 (k.setO e1 p1 i hn hl r)
theorem stay_ret {K : PySem.W.Frag} {W : Wd} {A : AS} {σ : L2.St} {H : Hp} {env : Env} {P : Pen} {d : D} {v : V} (k : EOk K W A σ H env P) (r : Rep K A H d v) : Rep K W.A0 H d v := Rep.mono (fun a u e _ n => ⟨e, fun z => n (k.sub a z)⟩) _ _ r
theorem xs_ret (h : XE Ex X .v e fa) : XS Ex .v X (.Return (some e) pos) (sRet fa) := by
  obtain ⟨t, ht, q⟩ := h
  refine ⟨_, ps_ret ht, fun W A σ H env P De k p => ?_⟩
  refine q W A σ H env P _ k ((PostS.bnd k p).mono ?_)
  rintro d _ H1 _ _ ⟨P1, e1, p1, k1, post⟩ v r
  exact post v H1 k1.base p1 (stay_ret k1 r)
theorem xs_retF (h : XE Ex X .f e fa) : XS Ex .f X (.Return (some e) pos) (sRet fa) := by
  obtain ⟨t, ht, q⟩ := h
  refine ⟨_, ps_ret ht, fun W A σ H env P De k p => ?_⟩
  refine q W A σ H env P _ k ((PostS.bnd k p).mono ?_)
  rintro d _ H1 _ _ ⟨P1, e1, p1, k1, post⟩ v ⟨a, vs, ds, rfl, rfl, hn, hl, r⟩
  refine post _ H1 k1.base p1 ⟨a, vs, ds, rfl, rfl, ?_, hl, Reps.mono (fun b u e _ n => ⟨e, fun z => n (z.elim (fun z => .inl (k.sub b z)) .inr)⟩) _ _ r⟩
  intro o q0 t
  by_cases hp : Pn W.pa a
  · obtain ⟨c, z⟩ := hp
    exact absurd (k.penA _ _ z).1 (k.newN hn)
  · exact hn o (k.base a o q0 hp t) t
theorem xs_retN : XS Ex .v X (.Return none pos) sRetN := ⟨_, ps_retN, fun W A σ H env P De k p => p .non H k.base k.pen rfl⟩
theorem own_ret {K : PySem.W.Frag} {W : Wd} {A : AS} {σ : L2.St} {H : Hp} {env : Env} {P : Pen} {i : Nat} {ds : List D} (k : EOk K W A σ H env P) (h : env[i]? = some (.own ds)) :
    ∃ a, σ[i]? = some (some (.ref a)) ∧ rel K W.pa W.A0 W.H0 H (.list ds) (.ref a) .f ∧ rel K W.pa W.A0 W.H0 H (.list ds) (.ref a) .v := by
  obtain ⟨o, e, a, vs, rfl, ha, np, hl, r⟩ := k.at h
  have hf := k.fresh i ds a h e
  have n0 : ¬ W.A0 a := fun z => by
    obtain ⟨o, ho, ht⟩ := k.a0 a z
    exact hf o ho ht
  refine ⟨a, e, ⟨a, vs, ds, rfl, rfl, hf, hl, Reps.mono (fun b u e _ n => ⟨e, fun z => n (z.elim (k.sub b) fun z => z ▸ ha)⟩) _ _ r⟩, a, vs, rfl, ⟨hl, n0⟩, Reps.mono (fun b u e _ n => ⟨e, fun z => n (k.sub b z)⟩) _ _ r⟩
theorem xs_retO (i : Nat) (hkd : kd ≠ .b) (hN : X.N[i]? = some x := by rfl) (hv : Vis X.env.scope x := by first | exact Or.inl rfl | exact Or.inr (Or.inl rfl)) (hd : (x == ("__debug__" : Str)) = false := by decide)
    (hcd : (x == ("__classdict__" : Str)) = false := by decide) : XS Ex kd X (.Return (some (.Name x pos')) pos) (sRetO i) := by
  refine ⟨_, ps_ret (pe_var hN hv hd hcd), fun W A σ H env P De k p => ?_⟩
  unfold sRetO at p
  cases h : env[i]? with
  | none => rw [h] at p; exact p.elim
  | some s =>
    rw [h] at p
    cases s with
    | own ds =>
      obtain ⟨a, e, r1, r2⟩ := own_ret k h
      refine ⟨_, e, p _ H k.base k.pen ?_⟩
      cases kd with
      | v => exact r2
      | f => exact r1
      | b => exact absurd rfl hkd
    | v d => exact p.elim
    | un => exact p.elim
    | pen => exact p.elim
    | scr _ => exact p.elim
theorem xs_if (hc : XT Ex X c fc) (ha : XSs Ex kd X a f) (hb : XSs Ex kd X b g) : XS Ex kd X (.If c a b pos) (sIf fc f g) := by
  obtain ⟨t, ht, q⟩ := hc
  obtain ⟨u, hu, q1⟩ := ha
  obtain ⟨w, hw, q2⟩ := hb
  refine ⟨_, ps_if ht hu hw, fun W A σ H env P De k p => ?_⟩
  refine q W A σ H env P _ k ((PostS.bnd k p).mono ?_)
  rintro d _ H1 _ _ ⟨P1, e1, p1, k1, post⟩
  cases d with
  | true => exact iteT (q1 W A σ H1 env P1 De k1 post)
  | false => exact iteF (q2 W A σ H1 env P1 De k1 post)
theorem xs_share (i : Nat) (h : XSs Ex kd X sts f) : XSs Ex kd X sts (sShare i f) := by
  obtain ⟨t, ht, q⟩ := h
  refine ⟨t, ht, fun W A σ H env P De k p => ?_⟩
  unfold sShare at p
  cases he : env[i]? with
  | none => rw [he] at p; exact q W A σ H env P De k p
  | some s =>
    rw [he] at p
    cases s with
    | own ds =>
      obtain ⟨A', _, k'⟩ := k.share he
      exact q W A' σ H _ P De k' p
    | v d => exact q W A σ H env P De k p
    | un => exact q W A σ H env P De k p
    | pen => exact q W A σ H env P De k p
    | scr ns => exact q W A σ H env P De k p
end
end Vl
end
section
set_option autoImplicit false
set_option maxRecDepth 100000
/-! V8: what is walked, for. -/
namespace Vl
open PySem L2

/-- how an iterator walks the contents ds, while gs are kept -/
def ItOk (K : PySem.W.Frag) (J : It) (gs : List (V × D)) (ds : List D) : Prop := ∀ W A σ H env P, EOk K W A σ H env P → (∀ g ∈ gs, Rep K A H g.2 g.1) →
  J.stop ds.length H ∧ (∀ i, i < ds.length → J.go i H) ∧ ∀ i x H', i < ds.length → J.yld i H x H' → Same H H' ∧ ∃ d, ds[i]? = some d ∧ Rep K A H' d x
def XI (Ex : Str → Hp → Prop) (X : Cx) (tg iter : Expr) (f : Env → M (List D)) : Prop := ∃ wi, PI X tg iter wi ∧ ∀ W A σ H env P R, EOk X.K W A σ H env P →
  PostG Ex W.pa H (f env P) (fun ds H1 => ∀ J gs, (∀ g ∈ gs, Rep X.K A H1 g.2 g.1) → ItOk X.K J gs ds → R J H1) → wi σ H R

/-- the slots sl alone differ -/
def Wp (sl : List Nat) (σ σ' : L2.St) : Prop := ∀ vs : List Nat, (∀ i ∈ sl, i ∈ vs) → wipe σ' vs = wipe σ vs
theorem wipe_set {i : Nat} {o : Option V} {σ : L2.St} : ∀ {vs : List Nat}, i ∈ vs → wipe (σ.set i o) vs = wipe σ vs
  | [], h => by simp at h
  | v :: vs, h => by
    unfold wipe
    by_cases e : i ∈ vs
    · rw [wipe_set e]
    · have ei : i = v := by simpa [e] using h
      subst ei
      have : ∀ (l : List Nat) (σ : L2.St), i ∉ l → wipe (σ.set i o) l = (wipe σ l).set i o := by
        intro l
        induction l with
        | nil => intro σ _; rfl
        | cons u l ih =>
          intro σ hn
          unfold wipe
          have h1 : i ≠ u := fun z => hn (by simp [z])
          have h2 : i ∉ l := fun z => hn (by simp [z])
          rw [ih σ h2, List.set_comm _ _ h1]
      rw [this vs σ e, List.set_set]
theorem Wp.refl (σ : L2.St) : Wp [] σ σ := fun _ _ => rfl
theorem Wp.set (i : Nat) (o : Option V) (σ : L2.St) : Wp [i] σ (σ.set i o) := fun vs h => wipe_set (h i List.mem_cons_self)
theorem Wp.trans {a b : List Nat} {σ σ1 σ2 : L2.St} (h : Wp a σ σ1) (h2 : Wp b σ1 σ2) : Wp (a ++ b) σ σ2 := fun vs hv => (h2 vs fun i hi => hv i (List.mem_append_right _ hi)).trans (h vs fun i hi => hv i (List.mem_append_left _ hi))
def XG (X : Cx) (tg : Expr) (sl : List Nat) (g : D → Env → Option Env) : Prop := ∃ t, PG X tg t ∧ ∀ W A σ H env P d x env' Q, EOk X.K W A σ H env P → Rep X.K A H d x → g d env = some env' → (∀ σ', Wp sl σ σ' → EOk X.K W A σ' H env' P → Q σ' H) → t x σ H Q
def XGs (X : Cx) (ts : List Expr) (sl : List Nat) (g : List D → Env → Option Env) : Prop := ∃ t, PGs X ts t ∧ ∀ W A σ H env P ds xs env' Q, EOk X.K W A σ H env P → Reps X.K A H ds xs → g ds env = some env' → (∀ σ', Wp sl σ σ' → EOk X.K W A σ' H env' P → Q σ' H) → t xs σ H Q
def tgName (i : Nat) : D → Env → Option Env := fun d env => some (env.set i (.v d))
def tgNil : List D → Env → Option Env := fun ds env => match ds with
  | [] => some env
  | _ => none
def tgCons (g : D → Env → Option Env) (h : List D → Env → Option Env) : List D → Env → Option Env := fun ds env => match ds with
  | d :: r => (g d env).bind fun e => h r e
  | [] => none
def tgTup (n : Nat) (g : List D → Env → Option Env) : D → Env → Option Env := fun d env => match d with
  | .tuple ds => if ds.length = n then g ds env else none
  | _ => none
section
variable {Ex : Str → Hp → Prop} {kd : Kd} {X : Cx} {pos : Pos} {tg : Expr} {ts : List Expr} {x : Str} {g : D → Env → Option Env} {h : List D → Env → Option Env}
theorem xg_name (i : Nat) (hN : X.N.Nodup) (hi : X.N[i]? = some x := by rfl) (hx : Loc X.env.scope x := by first | exact Or.inl rfl | exact Or.inr rfl) (hf : X.fn x = true ∨ X.env.scope.names.lookup x = some .local := by first | exact .inl rfl | exact .inr rfl | assumption) :
    XG X (.Name x pos) [i] (tgName i) := ⟨_, pg_name hN hi hx hf, fun W A σ H env P d x env' Q k r e q => by
  cases e
  exact q _ (Wp.set i _ σ) (k.setV i r)⟩
theorem xgs_nil : XGs X [] [] tgNil := ⟨_, pgs_nil, fun W A σ H env P ds xs env' Q k r e q => by
  cases ds with
  | nil => cases e; exact ⟨r, q _ (Wp.refl σ) k⟩
  | cons d ds => cases e⟩
theorem xgs_cons {sl sl' : List Nat} (h1 : XG X tg sl g) (h2 : XGs X ts sl' h) (hs : (assignEach (tg :: ts) X.env).map (·.2) = assign tg X.env :: (assignEach ts X.env).map (·.2) := by rfl) : XGs X (tg :: ts) (sl ++ sl') (tgCons g h) := by
  obtain ⟨t, ht, q1⟩ := h1
  obtain ⟨u, hu, q2⟩ := h2
  refine ⟨_, pgs_cons ht hu hs, fun W A σ H env P ds xs env' Q k r e q => ?_⟩
  cases ds with
  | nil => cases e
  | cons d ds =>
    obtain ⟨v, vs, rfl, r1, r2⟩ := r
    change (g d env).bind (fun e => h ds e) = some env' at e
    cases hg : g d env with
    | none => rw [hg] at e; cases e
    | some e1 =>
      rw [hg] at e
      refine ⟨v, vs, rfl, q1 W A σ H env P d v e1 _ k r1 hg fun σ' w' k' => ?_⟩
      exact q2 W A σ' H e1 P ds vs env' Q k' r2 e fun σ2 w2 k2 => q σ2 (w'.trans w2) k2
theorem xg_tup {kk : Nat} {sl : List Nat} (n : Nat) (hc : X.calm = true) (h1 : XGs X ts sl h) (hl : (assignEach ts X.env).length = n := by rfl) (hst : (assignEach ts X.env).findIdx? (·.1) = none := by rfl) : XG X (.Tuple ts kk pos) sl (tgTup n h) := by
  obtain ⟨t, ht, q1⟩ := h1
  refine ⟨_, pg_tup hc ht hl hst, fun W A σ H env P d x env' Q k r e q => ?_⟩
  cases d with
  | tuple ds =>
    obtain ⟨a, vs, rfl, l, rs⟩ := r
    change (if ds.length = n then h ds env else none) = some env' at e
    by_cases hn : ds.length = n
    · rw [if_pos hn] at e
      exact ⟨a, vs, rfl, l.sq, by rw [rs.length]; exact hn, q1 W A σ H env P ds vs env' Q k rs e q⟩
    · rw [if_neg hn] at e; cases e
  | _ => cases e
end

/-! ### for -/
def loopD (tg : D → Env → Option Env) (body : Env → M Fl) : List D → Env → M Fl
  | [], env => ret (.nx env)
  | d :: ds, env => match tg d env with
    | none => no
    | some e1 => bnd (body e1) fun
      | .nx e => loopD tg body ds e
      | .ct e => loopD tg body ds e
      | .bk e => ret (.nx e)
      | .rt d => ret (.rt d)
def sFor (it : Env → M (List D)) (tg : D → Env → Option Env) (body : Env → M Fl) : Env → M Fl := fun env => bnd (it env) fun ds => loopD tg body ds env
theorem EOk.keepsL {K : PySem.W.Frag} {W : Wd} {A : AS} {σ : L2.St} {H : Hp} {env : Env} {P : Pen} (k : EOk K W A σ H env P) (gs : List (V × D)) (h : ∀ g ∈ gs, Rep K A H g.2 g.1) : EOk K { W with G := gs ++ W.G } A σ H env P :=
  ⟨k.len, k.slot, k.inj, k.fresh, k.sub, k.a0, k.trk, k.penA, k.pen, k.base, fun g hg => (List.mem_append.mp hg).elim (h g) (k.keep g)⟩
theorem EOk.unkeepL {K : PySem.W.Frag} {W : Wd} {A : AS} {σ : L2.St} {H : Hp} {env : Env} {P : Pen} {gs : List (V × D)} (k : EOk K { W with G := gs ++ W.G } A σ H env P) : EOk K W A σ H env P ∧ ∀ g ∈ gs, Rep K A H g.2 g.1 :=
  ⟨⟨k.len, k.slot, k.inj, k.fresh, k.sub, k.a0, k.trk, k.penA, k.pen, k.base, fun g hg => k.keep g (List.mem_append_right _ hg)⟩, fun g hg => k.keep g (List.mem_append_left _ hg)⟩
section
variable {Ex : Str → Hp → Prop} {kd : Kd} {X : Cx} {pos : Pos} {tg iter : Expr} {body : List Stmt} {it : Env → M (List D)} {tgD : D → Env → Option Env} {f : Env → M Fl}
theorem xs_for (hp : PassesOwn (model X.prog X.w) X.A X.env X.xe) (hc : X.calm = true) {sl : List Nat} (hi : XI Ex X tg iter it) (hg : XG X tg sl tgD) (hb : XSs Ex kd X body f) (hs : ∀ x, foldedSetIterable iter X.env x = pure x := by intro _; rfl) :
    XS Ex kd X (.For tg iter body [] pos) (sFor it tgD f) := by
  obtain ⟨wi, hwi, qi⟩ := hi
  obtain ⟨g, hg, qg⟩ := hg
  obtain ⟨t, ht, qb⟩ := hb
  refine ⟨_, ps_for hp hc hwi hg ht hs, fun W A σ H env P De k p => ?_⟩
  refine qi W A σ H env P _ k ((PostS.bnd k p).mono ?_)
  rintro ds _ H1 _ _ ⟨P1, e1, p1, k1, post⟩ J gs hgs ok
  refine ⟨fun i m σ H => m = ds.length - i ∧ i ≤ ds.length ∧ ∃ A env P, EOk X.K { W with G := gs ++ W.G } A σ H env P ∧ PostS X.K Ex kd W (loopD tgD f (ds.drop i) env P) De, ⟨_, rfl, Nat.zero_le _, A, env, P1, k1.keepsL gs hgs, by rw [List.drop_zero]; exact post⟩, ?_⟩
  rintro i m σ2 H2 ⟨rfl, hi, A2, env2, P2, k2, post2⟩
  obtain ⟨ku, hr⟩ := k2.unkeepL
  obtain ⟨st, go, yl⟩ := ok W A2 σ2 H2 env2 P2 ku hr
  by_cases hlt : i < ds.length
  · refine .inr ⟨go i hlt, fun σ' H' => ∃ A env P, EOk X.K { W with G := gs ++ W.G } A σ' H' env P ∧ PostS X.K Ex kd W (loopD tgD f (ds.drop (i + 1)) env P) De, fun σ' H' q => ⟨ds.length - (i + 1), by omega, rfl, hlt, q⟩, fun x H3 hy => ?_⟩
    obtain ⟨sm, d, hd, rd⟩ := yl i x H3 hlt hy
    have ed : ds.drop i = d :: ds.drop (i + 1) := by
      rw [(List.drop_eq_getElem_cons hlt)]
      rw [List.getElem?_eq_getElem hlt] at hd
      rw [Option.some.inj hd]
    rw [ed] at post2
    unfold loopD at post2
    cases htg : tgD d env2 with
    | none => rw [htg] at post2; exact post2.elim
    | some e2 =>
      rw [htg] at post2
      have k3 := k2.stayS sm
      refine qg { W with G := gs ++ W.G } A2 σ2 H3 env2 P2 d x e2 _ k3 rd htg fun σ4 _ k4 => ?_
      refine qb { W with G := gs ++ W.G } A2 σ4 H3 e2 P2 _ k4 ?_
      change PostS X.K Ex kd W (bnd (f e2) _ P2) De at post2
      unfold bnd at post2
      cases hf : f e2 P2 with
      | ok o P' =>
        rw [hf] at post2
        cases o with
        | nx e => exact fun A' σ' H' k' => ⟨A', e, P', k', post2⟩
        | ct e => exact fun A' σ' H' k' => ⟨A', e, P', k', post2⟩
        | bk e => exact fun A' σ' H' k' => post2 A' σ' H' k'.unkeepL.1
        | rt d => exact post2
      | ex c P' => rw [hf] at post2; exact post2
      | no => rw [hf] at post2; exact post2
  · have ei : i = ds.length := by omega
    subst ei
    rw [List.drop_length] at post2
    exact .inl ⟨st, post2 A2 σ2 H2 ku⟩
end

/-! ### lists, tuples, texts; ranges -/
def signs (z : Str) : List D := z.cps.toList.map signD
def itD (f : Env → M D) : Env → M (List D) := fun env => bnd (f env) fun
  | .list ds => ret ds
  | .tuple ds => ret ds
  | .str z => ret (signs z)
  | _ => no
def iAny (K : PySem.W.Frag) (te : TE) : TI := fun σ H R => te σ H fun x H1 => (∃ a, x = .ref a ∧ (∃ xs, SqL K H1 a xs) ∧ R (Itl K a) H1) ∨ ((∃ a, x = .ref a ∧ (∃ xs, SqT K H1 a xs) ∧ R (Itt K a) H1) ∨ ∃ z, x = .str z ∧ R (Its z) H1)
theorem it_list {K : PySem.W.Frag} {a : Addr} {ds : List D} : ItOk K (Itl K a) [(.ref a, .list ds)] ds := fun W A σ H env P k hg => by
  obtain ⟨b, vs, e, l, r⟩ := hg _ List.mem_cons_self
  cases e
  refine ⟨⟨vs, l.sq, by rw [r.length]; exact Nat.le_refl _⟩, fun i hi => ?_, fun i x H' hi hy => ?_⟩
  · obtain ⟨v, hv, _⟩ := r.get' (List.getElem?_eq_getElem hi)
    exact ⟨vs, v, l.sq, hv⟩
  · obtain ⟨rfl, hx⟩ := hy
    exact ⟨Same.refl _, r.get (hx vs l.sq)⟩
theorem it_tup {K : PySem.W.Frag} {a : Addr} {ds : List D} : ItOk K (Itt K a) [(.ref a, .tuple ds)] ds := fun W A σ H env P k hg => by
  obtain ⟨b, vs, e, l, r⟩ := hg _ List.mem_cons_self
  cases e
  refine ⟨⟨vs, l.sq, by rw [r.length]; exact Nat.le_refl _⟩, fun i hi => ?_, fun i x H' hi hy => ?_⟩
  · obtain ⟨v, hv, _⟩ := r.get' (List.getElem?_eq_getElem hi)
    exact ⟨vs, v, l.sq, hv⟩
  · obtain ⟨rfl, hx⟩ := hy
    exact ⟨Same.refl _, r.get (hx vs l.sq)⟩
theorem it_str {K : PySem.W.Frag} {z : Str} : ItOk K (Its z) [] (signs z) := fun W A σ H env P k hg => by
  have hl : (signs z).length = z.cps.size := by simp [signs]
  refine ⟨by rw [hl]; exact Nat.le_refl _, fun i hi => by rw [hl] at hi; exact hi, fun i x H' hi hy => ?_⟩
  obtain ⟨rfl, c, hc, rfl⟩ := hy
  exact ⟨Same.refl _, signD c, by simp [signs, hc], rfl⟩
def rangeD (lo : Int) (n : Nat) : List D := (List.range n).map fun i => .int (lo + (i : Nat))
theorem it_range {K : PySem.W.Frag} {lo : Int} {n : Nat} : ItOk K (Itr lo n) [] (rangeD lo n) := fun W A σ H env P k hg => by
  have hl : (rangeD lo n).length = n := by simp [rangeD]
  refine ⟨by rw [hl]; exact Nat.le_refl _, fun i hi => by rw [hl] at hi; exact hi, fun i x H' hi hy => ?_⟩
  obtain ⟨rfl, rfl⟩ := hy
  rw [hl] at hi
  exact ⟨Same.refl _, .int (lo + (i : Nat)), by simp [rangeD, hi], rfl⟩
end Vl
end
section
set_option autoImplicit false
set_option maxRecDepth 100000
/-! V9: iterators over values, ranges; comprehensions. -/
namespace Vl
open PySem L2

section
variable {X : Cx} {tg e : Expr} {te : TE}
theorem pi_any (he : PE X e te) : PI X tg e (iAny X.K te) := by
  refine (⟨fun pins s σ H R I h => ?_⟩)
  refine thn (he.run pins s σ H _ I h) fun v s1 ⟨y, H1, I1, r1, q⟩ => ?_
  rcases q with ⟨a, rfl, ⟨xs, hq⟩, q⟩ | ⟨a, rfl, ⟨xs, hq⟩, q⟩ | ⟨z, rfl, q⟩
  · cases r1
    obtain ⟨its, rv, p, hz⟩ := (I1.list hq)
    exact wpAny_pyIter_list p.isList (pi_one (tk := s1.toks) I1 _ (turn_list a _) ⟨_, Heap.get?_push_size _ rfl, rfl, rfl⟩ q)
  · cases r1
    obtain ⟨its, rv, p, hz⟩ := (I1.tuple hq)
    exact wpAny_pyIter_tuple (show s1.heap.IsTuple a its.toArray from p) (pi_one (tk := s1.toks) I1 _ (turn_tuple a _) ⟨_, Heap.get?_push_size _ rfl, rfl, rfl⟩ q)
  · obtain ⟨t, rfl⟩ := r1
    cases ha : z.cps.all (· < 128)
    · exact wpAny_pyIter_wide ha (pi_one (tk := s1.toks) I1 _ (turn_str _ z t "str_iterator" (.inr rfl)) ⟨_, Heap.get?_push_size _ rfl, rfl, rfl⟩ q)
    · exact wpAny_pyIter_ascii ha (pi_one (tk := s1.toks) I1 _ (turn_str _ z t "str_ascii_iterator" (.inl rfl)) ⟨_, Heap.get?_push_size _ rfl, rfl, rfl⟩ q)
end
section
variable {Ex : Str → Hp → Prop} {X : Cx} {tg e : Expr} {fa : Env → M D} {pos p : Pos} {es : List Expr} {g : Env → M (List D)} {a b : Expr}
theorem xi_any (h : XE Ex X .v e fa) : XI Ex X tg e (itD fa) := by
  obtain ⟨t, ht, q⟩ := h
  refine ⟨_, pi_any ht, fun W A σ H env P R k p => ?_⟩
  refine q W A σ H env P _ k ((PostG.bnd k p).mono ?_)
  rintro d _ H1 _ _ ⟨P1, e1, p1, k1, post⟩ v r
  cases d with
  | list ds =>
    obtain ⟨a, vs, rfl, l, rs⟩ := id r
    exact .inl ⟨a, rfl, ⟨vs, l.sq⟩, post_here post p1 e1 _ [(.ref a, .list ds)] (fun g hg => by rcases List.mem_singleton.mp hg with rfl; exact r) it_list⟩
  | tuple ds =>
    obtain ⟨a, vs, rfl, l, rs⟩ := id r
    exact .inr (.inl ⟨a, rfl, ⟨vs, l.sq⟩, post_here post p1 e1 _ [(.ref a, .tuple ds)] (fun g hg => by rcases List.mem_singleton.mp hg with rfl; exact r) it_tup⟩)
  | str z => exact .inr (.inr ⟨z, r, post_here post p1 e1 _ [] (fun g hg => nomatch hg) it_str⟩)
  | _ => exact post.elim
def itR1 (g : Env → M (List D)) : Env → M (List D) := fun env => bnd (g env) fun
  | [.int j] => if -(2 ^ 62) ≤ j ∧ j < 2 ^ 62 then ret (rangeD 0 j.toNat) else no
  | _ => no
def itR2 (g : Env → M (List D)) : Env → M (List D) := fun env => bnd (g env) fun
  | [.int i, .int j] => if -(2 ^ 62) ≤ i ∧ i < 2 ^ 62 ∧ -(2 ^ 62) ≤ j ∧ j < 2 ^ 62 then ret (rangeD i (j - i).toNat) else no
  | _ => no
theorem xi_range1 (hm : X.mg "range" = none) (h : XB Ex X [a] g) (hg : Gl X "range" := by rfl) (hs : starEach [a] X.env = [(false, eval a X.env)] := by rfl) : XI Ex X tg (.Call (.Name "range" p) [a] [] pos) (itR1 g) := by
  obtain ⟨t, ht, q⟩ := h
  refine ⟨_, pi_range1 hg hm ht hs, fun W A σ H env P R k p => ?_⟩
  refine q W A σ H env P _ k ((PostG.bnd k p).mono ?_)
  rintro ds _ H1 _ _ ⟨P1, e1, p1, k1, post⟩ vs rs
  match ds, rs, post with
  | [d0], rs, post =>
    obtain ⟨v, rfl, r⟩ := one_arg rs
    cases d0 with
    | int j =>
      change PostG Ex W.pa H1 ((if -(2 ^ 62) ≤ j ∧ j < 2 ^ 62 then ret (rangeD 0 j.toNat) else no) P1) _ at post
      by_cases hj : -(2 ^ 62) ≤ j ∧ j < 2 ^ 62
      · rw [if_pos hj] at post
        cases (show v = .int j from r)
        exact ⟨j, rfl, hj.1, hj.2, post_here post p1 e1 _ [] (fun g hg => nomatch hg) it_range⟩
      · rw [if_neg hj] at post; exact post.elim
    | _ => exact post.elim
  | [], _, post => exact post.elim
  | d :: d2 :: r, _, post => cases d <;> exact post.elim
theorem xi_range2 (hm : X.mg "range" = none) (h : XB Ex X [a, b] g) (hg : Gl X "range" := by rfl) (hs : starEach [a, b] X.env = [(false, eval a X.env), (false, eval b X.env)] := by rfl) (hs2 : starEach [b] X.env = [(false, eval b X.env)] := by rfl) : XI Ex X tg (.Call (.Name "range" p) [a, b] [] pos) (itR2 g) := by
  obtain ⟨t, ht, q⟩ := h
  refine ⟨_, pi_range2 hg hm ht hs hs2, fun W A σ H env P R k p => ?_⟩
  refine q W A σ H env P _ k ((PostG.bnd k p).mono ?_)
  rintro ds _ H1 _ _ ⟨P1, e1, p1, k1, post⟩ vs rs
  match ds, rs, post with
  | [d0, d1], rs, post =>
    obtain ⟨v, r, rfl, r0, r1⟩ := rs
    obtain ⟨v1, rfl, r2⟩ := one_arg r1
    cases d0 with
    | int i =>
      cases d1 with
      | int j =>
        change PostG Ex W.pa H1 ((if -(2 ^ 62) ≤ i ∧ i < 2 ^ 62 ∧ -(2 ^ 62) ≤ j ∧ j < 2 ^ 62 then ret (rangeD i (j - i).toNat) else no) P1) _ at post
        by_cases hj : -(2 ^ 62) ≤ i ∧ i < 2 ^ 62 ∧ -(2 ^ 62) ≤ j ∧ j < 2 ^ 62
        · rw [if_pos hj] at post
          cases (show v = .int i from r0)
          cases (show v1 = .int j from r2)
          exact ⟨i, j, rfl, hj, post_here post p1 e1 _ [] (fun g hg => nomatch hg) it_range⟩
        · rw [if_neg hj] at post; exact post.elim
      | _ => exact post.elim
    | _ => cases d1 <;> exact post.elim
  | [], _, post => exact post.elim
  | [d0], _, post => cases d0 <;> exact post.elim
  | d0 :: d1 :: d2 :: r, _, post => cases d0 <;> first | exact post.elim | (cases d1 <;> exact post.elim)
end

/-! ### the reading that a denotation stands for -/
def TEof (K : PySem.W.Frag) (Ex : Str → Hp → Prop) (kd : Kd) (f : Env → M D) : TE := fun σ H Q => ∃ W A env P, EOk K W A σ H env P ∧ PostG Ex W.pa H (f env P) (fun d H' => ∀ v, rel K W.pa A H H' d v kd → Q v H')
def TTof (K : PySem.W.Frag) (Ex : Str → Hp → Prop) (f : Env → M Bool) : TT := fun σ H Q => ∃ W A env P, EOk K W A σ H env P ∧ PostG Ex W.pa H (f env P) Q
def TGof (K : PySem.W.Frag) (sl : List Nat) (g : D → Env → Option Env) : TG := fun x σ H Q => ∃ W A env P d env', EOk K W A σ H env P ∧ Rep K A H d x ∧ g d env = some env' ∧ ∀ σ', Wp sl σ σ' → EOk K W A σ' H env' P → Q σ' H
section
variable {Ex : Str → Hp → Prop} {X : Cx} {kd : Kd} {e : Expr} {fa : Env → M D} {fc : Env → M Bool} {sl : List Nat} {g : D → Env → Option Env}
theorem XE.can (h : XE Ex X kd e fa) : PE X e (TEof X.K Ex kd fa) := by
  obtain ⟨t, ht, q⟩ := h
  exact ⟨fun pins s σ H Q I ⟨W, A, env, P, k, p⟩ => ht.run pins s σ H Q I (q W A σ H env P Q k p)⟩
theorem XT.can (h : XT Ex X e fc) : PT X e (TTof X.K Ex fc) := by
  obtain ⟨t, ht, q⟩ := h
  exact ⟨fun pins s σ H Q I ⟨W, A, env, P, k, p⟩ => ht.run pins s σ H Q I (q W A σ H env P Q k p)⟩
theorem XG.can (h : XG X e sl g) : PG X e (TGof X.K sl g) := by
  obtain ⟨t, ht, q⟩ := h
  exact ⟨fun pins s σ H v u Q I r ⟨W, A, env, P, d, env', k, rd, e, z⟩ => ht.run pins s σ H v u Q I r (q W A σ H env P d v env' Q k rd e z)⟩
end
end Vl
end
section
set_option autoImplicit false
set_option maxRecDepth 100000
/-! V10: comprehensions. -/
namespace Vl
open PySem L2

section
variable {K : PySem.W.Frag} {W : Wd} {A : AS} {σ : L2.St} {H H' : Hp} {env : Env} {P P' : Pen}
/-- a new object that nobody holds is avoided -/
theorem EOk.avoid (k : EOk K W A σ H env P) {a : Addr} {o : HO} (hn : H a = none) (ht : Nt o := by exact nt_lst) : EOk K W (ad A a) σ (upd H a o) env P := by
  have s := same_upd (o := o) hn
  have st : Stay A (ad A a) H (upd H a o) := fun b u h _ n => ⟨s b u h, fun z => z.elim n fun z => by subst z; rw [hn] at h; cases h⟩
  refine ⟨k.len, fun j o' sv h1 h2 => ?_, k.inj, k.fresh, fun b z => .inl (k.sub b z), k.a0, fun b z => ?_, fun p c z => ⟨.inl (k.penA p c z).1, .inl (k.penA p c z).2⟩, penOk_same s k.pen, k.base.trans (HExt.of s), fun g hg => Rep.mono st _ _ (k.keep g hg)⟩
  · have q := k.slot j o' sv h1 h2
    cases sv with
    | un => trivial
    | v d => obtain ⟨x, e1, r⟩ := q; exact ⟨x, e1, Rep.mono st _ _ r⟩
    | own es =>
      obtain ⟨b, us, e1, hb, hp, hl2, r2⟩ := q
      exact ⟨b, us, e1, .inl hb, hp, s b _ hl2, Reps.mono st _ _ r2⟩
    | pen => exact q
    | scr ns => obtain ⟨x, e1', r⟩ := q; exact ⟨x, e1', r.mono st⟩
  · rcases z with z | z
    · exact (k.stayS s).trk b z
    · exact ⟨o, z ▸ upd_same, ht⟩
/-- an avoided list that no slot holds is changed -/
theorem EOk.poke (k : EOk K W A σ H env P) {a : Addr} {o : HO} (ha : A a) (hfr : Free1 (H a)) (h0 : New W.H0 a) (np : ∀ p c, W.pa.pen = some (p, c) → a ≠ p ∧ a ≠ c) (ht : Nt o := by exact nt_lst) (hs : ∀ (i : Nat) (ds : List D), env[i]? = some (SV.own ds) → σ[i]? ≠ some (some (V.ref a))) :
    EOk K W A σ (upd H a o) env P ∧ Stay A A H (upd H a o) := by
  have st : Stay A A H (upd H a o) := fun b u h _ n => ⟨(upd_ne (fun z => by subst z; exact n ha)).trans h, n⟩
  refine ⟨⟨k.len, fun j o' sv h1 h2 => ?_, k.inj, k.fresh, k.sub, k.a0, fun b z => ?_, k.penA, ⟨fun p c z => ?_, tabs_upd k.pen.2.1 hfr, k.pen.2.2⟩, fun b u h n nt => ?_, fun g hg => Rep.mono st _ _ (k.keep g hg)⟩, st⟩
  · have q := k.slot j o' sv h1 h2
    cases sv with
    | un => trivial
    | v d => obtain ⟨x, e1, r⟩ := q; exact ⟨x, e1, Rep.mono st _ _ r⟩
    | own es =>
      obtain ⟨b, us, rfl, hb, hp, hl2, r2⟩ := q
      have hne : b ≠ a := fun z => by subst z; exact hs j es h2 h1
      exact ⟨b, us, rfl, hb, hp, by rw [upd_ne hne]; exact hl2, Reps.mono st _ _ r2⟩
    | pen => exact q
    | scr ns => obtain ⟨x, e1', r⟩ := q; exact ⟨x, e1', r.mono st⟩
  · by_cases hb : b = a
    · subst hb; exact ⟨_, upd_same, ht⟩
    · rw [upd_ne hb]; exact k.trk b z
  · obtain ⟨q1, q2, q3⟩ := k.pen.1 p c z
    exact ⟨q1, by rw [upd_ne (np p c z).1.symm]; exact q2, by rw [upd_ne (np p c z).2.symm]; exact q3⟩
  · have hb : b ≠ a := fun z => by subst z; exact h0 u h nt
    rw [upd_ne hb]
    exact k.base b u h n nt
theorem EOk.none0 (k : EOk K W A σ H env P) {a : Addr} (hn : H a = none) : New W.H0 a ∧ ∀ p c, W.pa.pen = some (p, c) → a ≠ p ∧ a ≠ c := by
  have nA := k.new hn
  refine ⟨fun o q t => ?_, fun p c z => ⟨fun y => nA (y ▸ (k.penA _ _ z).1), fun y => nA (y ▸ (k.penA _ _ z).2)⟩⟩
  by_cases hp : Pn W.pa a
  · obtain ⟨c, z⟩ := hp
    exact absurd (k.penA _ _ z).1 nA
  · have h := k.base a o q hp t
    rw [hn] at h; cases h
def wipeE (env : Env) : List Nat → Env
  | [] => env
  | v :: vs => (wipeE env vs).set v .un
theorem EOk.wipe (k : EOk K W A σ H env P) : ∀ vs : List Nat, EOk K W A (L2.wipe σ vs) H (wipeE env vs) P
  | [] => k
  | v :: vs => (EOk.wipe k vs).setU v none
theorem wipe_mem {vs : List Nat} : ∀ {ws : List Nat} {σ : L2.St}, (∀ i ∈ ws, i ∈ vs) → L2.wipe (L2.wipe σ ws) vs = L2.wipe σ vs
  | [], _, _ => rfl
  | w :: ws, σ, h => by
    show L2.wipe ((L2.wipe σ ws).set w none) vs = _
    rw [wipe_set (h w List.mem_cons_self)]
    exact wipe_mem fun i hi => h i (List.mem_cons_of_mem _ hi)
end

def plainD : D → Bool
  | .none => true
  | .bool _ => true
  | .int _ => true
  | .str _ => true
  | _ => false
theorem plainD_rep {K : PySem.W.Frag} {pa : PL} {A A' : AS} {H H' : Hp} {d : D} {v : V} (hp : plainD d = true) (r : RepB K pa A H d v) : Rep K A' H' d v := by
  cases d with
  | none | bool _ | int _ | str _ => exact r
  | _ => cases hp

def noEx {α : Type} (m : M α) : M α := fun P => match m P with
  | .ex _ _ => .no
  | r => r
def compD (tg : D → Env → Option Env) (ts : Env → M Bool) (elt : Env → M D) : List D → Nat → Env → M (List D)
  | [], _, _ => ret []
  | d :: ds, n, env => match tg d env with
    | none => no
    | some e1 => bnd (noEx (ts e1)) fun b => if b then bnd (noEx (elt e1)) fun y => (if n < 16777216 then bnd (compD tg ts elt ds (n + 1) env) fun ys => ret (y :: ys) else no) else compD tg ts elt ds n env
def dComp (it : Env → M (List D)) (tg : D → Env → Option Env) (ts : Env → M Bool) (elt : Env → M D) (vs : List Nat) : Env → M D := fun env => bnd (it env) fun ds => bnd (compD tg ts elt ds 0 (wipeE env vs)) fun ys => ret (.list ys)
def Ex0 : Str → Hp → Prop := fun _ _ => False
theorem post_noEx {α : Type} {Ex : Str → Hp → Prop} {pa : PL} {H : Hp} {m : M α} {P : Pen} {Q : α → Hp → Prop} (h : PostG Ex pa H (noEx m P) Q) : PostG Ex0 pa H (m P) Q := by
  unfold noEx at h
  cases hm : m P with
  | ok a P1 => rw [hm] at h; exact h
  | ex c P1 => rw [hm] at h; exact h.elim
  | no => rw [hm] at h; exact h
theorem PostG.same {α : Type} {Ex : Str → Hp → Prop} {pa : PL} {H H' : Hp} {r : R α} {Q : α → Hp → Prop} (h : PostG Ex pa H r Q) (s : HExt pa H H') : PostG Ex pa H' r Q := by
  cases r with
  | ok a P1 => exact fun H2 e p => h H2 (s.trans e) p
  | ex c P1 => exact fun H2 e p => h H2 (s.trans e) p
  | no => exact h
def tsNil : Env → M Bool := fun _ => ret true
def XTs (Ex : Str → Hp → Prop) (X : Cx) (ifs : List Expr) (f : Env → M Bool) : Prop := ∃ t, PTs X ifs t ∧ SdT X.K Ex t f
section
variable {Ex : Str → Hp → Prop} {X : Cx} {tg elt iter c : Expr} {ifs : List Expr} {scope : Scope} {own : List (Str × Nat)} {pos : Pos} {it : Env → M (List D)} {gD : D → Env → Option Env} {fc : Env → M Bool} {fe : Env → M D} {sl : List Nat}
theorem xts_nil : XTs Ex X [] tsNil := ⟨_, pts_nil, fun W A σ H env P Q k p => post_here p k.pen⟩
theorem xts_one (h : XT Ex X c fc) : XTs Ex X [c] fc := by
  obtain ⟨t, ht, q⟩ := h
  exact ⟨_, pts_one ht, q⟩
theorem XTs.can (h : XTs Ex X ifs fc) : PTs X ifs (TTof X.K Ex fc) := by
  obtain ⟨t, ht, q⟩ := h
  exact ⟨fun pins s σ H Q I ⟨W, A, env, P, k, p⟩ => ht.run pins s σ H Q I (q W A σ H env P Q k p)⟩
theorem lc_sd {wi : TI} {vs : List Nat} (qi : ∀ W A σ H env P R, EOk X.K W A σ H env P → PostG Ex W.pa H (it env P) (fun ds H1 => ∀ J gs, (∀ g ∈ gs, Rep X.K A H1 g.2 g.1) → ItOk X.K J gs ds → R J H1) → wi σ H R) (hsl : ∀ i ∈ sl, i ∈ vs) :
    Sd X.K Ex .f (tLc wi (TGof X.K sl gD) (TTof X.K Ex0 fc) (TEof X.K Ex0 .v fe) vs) (dComp it gD fc fe vs) := fun W A σ H env P Q k p => by
  refine qi W A σ H env P _ k ((PostG.bnd k p).mono ?_)
  rintro ds _ H1 _ _ ⟨P1, e1, p1, k1, post⟩ J gs hgs okJ Dd hD
  have kw := ((k1.keepsL gs hgs).wipe vs)
  have k0 := kw.avoid (o := .lst []) hD
  obtain ⟨h00, hnp⟩ := kw.none0 hD
  have sD := same_upd (o := .lst []) hD
  have hown : ∀ (i : Nat) (es : List D), (wipeE env vs)[i]? = some (SV.own es) → (L2.wipe σ vs)[i]? ≠ some (some (V.ref Dd)) := fun i es h1 h2 => by
    obtain ⟨o, e1, b, us, e2, hb, _, hl, _⟩ := kw.at h1
    rw [e1] at h2; cases h2; cases e2
    rw [hD] at hl; cases hl
  have post0 : PostG Ex W.pa H1 (compD gD fc fe ds 0 (wipeE env vs) P1) (fun ys H2 => ∀ accv, H2 Dd = some (.lst accv) → Reps X.K (ad A Dd) H2 ys accv → Q (.ref Dd) H2) := by
    refine (PostG.bnd k1 post).mono ?_
    rintro ys P2 H2 e2 p2 ⟨P3, e3, p3, k3, post3⟩ accv ha hr
    exact post_here post3 p3 e3 (e1.trans e3) (.ref Dd) ⟨Dd, accv, ys, rfl, rfl, fresh_back k.pen e1 p1 (.of hD), ha, hr⟩
  refine ⟨fun i m H => m = ds.length - i ∧ i ≤ ds.length ∧ ∃ P acc accv, EOk X.K { W with G := gs ++ W.G } (ad A Dd) (L2.wipe σ vs) H (wipeE env vs) P ∧ HExt W.pa H1 H ∧ H Dd = some (.lst accv) ∧ Reps X.K (ad A Dd) H acc accv ∧
      PostG Ex W.pa H1 (compD gD fc fe (ds.drop i) acc.length (wipeE env vs) P) (fun ys H2 => ∀ accv, H2 Dd = some (.lst accv) → Reps X.K (ad A Dd) H2 (acc ++ ys) accv → Q (.ref Dd) H2),
    ⟨_, rfl, Nat.zero_le _, P1, [], [], k0, HExt.of sD, upd_same, rfl, by rw [List.drop_zero]; exact post0⟩, ?_⟩
  rintro i m H2 ⟨rfl, hi, P2, acc, accv, k2, eH, hDd, hacc, post2⟩
  obtain ⟨ku, hr⟩ := k2.unkeepL
  obtain ⟨st, go, yl⟩ := okJ W (ad A Dd) _ H2 _ P2 ku hr
  by_cases hlt : i < ds.length
  · refine .inr ⟨go i hlt, fun H' => ∃ P acc accv, EOk X.K { W with G := gs ++ W.G } (ad A Dd) (L2.wipe σ vs) H' (wipeE env vs) P ∧ HExt W.pa H1 H' ∧ H' Dd = some (.lst accv) ∧ Reps X.K (ad A Dd) H' acc accv ∧
        PostG Ex W.pa H1 (compD gD fc fe (ds.drop (i + 1)) acc.length (wipeE env vs) P) (fun ys H2 => ∀ accv, H2 Dd = some (.lst accv) → Reps X.K (ad A Dd) H2 (acc ++ ys) accv → Q (.ref Dd) H2),
      fun H' q => ⟨ds.length - (i + 1), by omega, rfl, hlt, q⟩, fun x H3 hy => ?_⟩
    obtain ⟨sm, d, hd, rd⟩ := yl i x H3 hlt hy
    have ed : ds.drop i = d :: ds.drop (i + 1) := by
      rw [(List.drop_eq_getElem_cons hlt)]
      rw [List.getElem?_eq_getElem hlt] at hd
      rw [Option.some.inj hd]
    rw [ed] at post2
    unfold compD at post2
    cases htg : gD d (wipeE env vs) with
    | none => rw [htg] at post2; exact post2.elim
    | some e2 =>
      rw [htg] at post2
      have k3 := k2.stayS sm
      have e3 := eH.trans (HExt.of (pa := W.pa) sm)
      change PostG Ex W.pa H1 (bnd (noEx (fc e2)) _ P2) _ at post2
      unfold bnd noEx at post2
      refine ⟨{ W with G := gs ++ W.G }, ad A Dd, wipeE env vs, P2, d, e2, k3, rd, htg, fun σ4 w4 k4 => ⟨?_, ?_⟩⟩
      · rw [w4 vs hsl, wipe_mem fun _ h => h]
      · cases hfc : fc e2 P2 with
        | no => rw [hfc] at post2; exact post2.elim
        | ex c P5 => rw [hfc] at post2; exact post2.elim
        | ok b P5 =>
          rw [hfc] at post2
          refine ⟨{ W with G := gs ++ W.G }, ad A Dd, e2, P2, k4, ?_⟩
          rw [hfc]
          intro H5 e5 p5
          have k5 := k4.ext e5 p5
          have kb5 := k3.ext e5 p5
          have hD5 : H5 Dd = some (.lst accv) := e5.at (sm _ _ hDd) fun ⟨c, z⟩ => (hnp _ _ z).1 rfl
          have hacc5 := k3.reps e5 (k2.repsN sm hacc)
          cases b with
          | false => exact iteF ⟨P5, acc, accv, kb5, e3.trans e5, hD5, hacc5, post2⟩
          | true =>
            change PostG Ex W.pa H1 (bnd (noEx (fe e2)) _ P5) _ at post2
            unfold bnd noEx at post2
            refine iteT ?_
            cases hfe : fe e2 P5 with
            | no => rw [hfe] at post2; exact post2.elim
            | ex c P6 => rw [hfe] at post2; exact post2.elim
            | ok y P6 =>
              rw [hfe] at post2
              refine ⟨{ W with G := gs ++ W.G }, ad A Dd, e2, P5, k5, ?_⟩
              rw [hfe]
              intro H6 e6 p6 v rv
              have kb6 := kb5.ext e6 p6
              have hD6 : H6 Dd = some (.lst accv) := e6.at hD5 fun ⟨c, z⟩ => (hnp _ _ z).1 rfl
              have hacc6 := kb5.reps e6 hacc5
              by_cases hn : acc.length < 16777216
              · dsimp only at post2
                rw [if_pos hn] at post2
                obtain ⟨kp, stp⟩ := kb6.poke (a := Dd) (o := .lst (accv ++ [v])) (.inr rfl) (by rw [hD6]; trivial) h00 hnp nt_lst hown
                refine ⟨accv, hD6, by rw [hacc6.length, sizeLine_eq]; exact hn, P6, acc ++ [y], accv ++ [v], kp, fun b u hb nb nt => ?_, upd_same, Reps.mono stp _ _ (hacc6.append (Reps.one rv)), ?_⟩
                · have hbD : b ≠ Dd := fun z => by subst z; rw [hD] at hb; cases hb
                  rw [upd_ne hbD]
                  exact (e3.trans (e5.trans e6)) b u hb nb nt
                · rw [List.length_append]; rw [List.length_singleton]
                  change PostG Ex W.pa H1 (bnd _ _ P6) _ at post2
                  unfold bnd at post2
                  cases hr : compD gD fc fe (ds.drop (i + 1)) (acc.length + 1) (wipeE env vs) P6 with
                  | no => rw [hr] at post2; exact post2.elim
                  | ex c P7 => rw [hr] at post2; exact post2
                  | ok ys P7 =>
                    rw [hr] at post2
                    intro H7 e7 p7 accv7 h7 r7
                    exact post2 H7 e7 p7 accv7 h7 (by rw [List.append_assoc] at r7; exact r7)
              · dsimp only at post2
                rw [if_neg hn] at post2; exact post2.elim
  · have ei : i = ds.length := by omega
    subst ei
    rw [List.drop_length] at post2
    exact .inl ⟨st, post2 H2 eH k2.pen accv hDd (by rw [List.append_nil]; exact hacc)⟩
theorem x_lc (hc : X.calm = true) (hN : X.N.Nodup) (hi : XI Ex X tg iter it) (ok : BlkOk X.N X.env.scope scope own)
    (hg : ∀ (s : Shared) (H : Hp) (C : Addr) (cl : List (Str × Addr)) (fp : List Addr), XG (X.blk s H scope (compEnvC scope cl C X.env) fp) tg sl gD)
    (ht : ∀ (s : Shared) (H : Hp) (C : Addr) (cl : List (Str × Addr)) (fp : List Addr), XTs Ex0 (X.blk s H scope (compEnvC scope cl C X.env) fp) ifs fc)
    (he : ∀ (s : Shared) (H : Hp) (C : Addr) (cl : List (Str × Addr)) (fp : List Addr), XE Ex0 (X.blk s H scope (compEnvC scope cl C X.env) fp) .v elt fe)
    (hsl : ∀ i ∈ sl, i ∈ own.map (·.2) := by decide) (hs : ∀ x, foldedSetIterable iter X.env x = pure x := by intro _; rfl) :
    XE Ex X .f (.ListComp elt [⟨tg, iter, ifs, 0⟩] scope pos) (dComp it gD fc fe (own.map (·.2))) := by
  obtain ⟨wi, hwi, qi⟩ := hi
  exact ⟨_, pe_lc hc hN hwi ok (g := TGof X.K sl gD) (tt := TTof X.K Ex0 fc) (te := TEof X.K Ex0 .v fe) (fun s H C cl fp => (hg s H C cl fp).can) (fun s H C cl fp => (ht s H C cl fp).can) (fun s H C cl fp => (he s H C cl fp).can) hs, lc_sd qi hsl⟩
/-- here: name = [..] on one line, the name a local -/
theorem xs_setLc {kd : Kd} {y : Str} {py spos : Pos} (i : Nat) (hc : X.calm = true) (hN : X.N.Nodup) (hi : XI Ex X tg iter it) (ok : BlkOk X.N X.env.scope scope own)
    (hg : ∀ (s : Shared) (H : Hp) (C : Addr) (cl : List (Str × Addr)) (fp : List Addr), XG (X.blk s H scope (compEnvC scope cl C X.env) fp) tg sl gD)
    (ht : ∀ (s : Shared) (H : Hp) (C : Addr) (cl : List (Str × Addr)) (fp : List Addr), XTs Ex0 (X.blk s H scope (compEnvC scope cl C X.env) fp) ifs fc)
    (he : ∀ (s : Shared) (H : Hp) (C : Addr) (cl : List (Str × Addr)) (fp : List Addr), XE Ex0 (X.blk s H scope (compEnvC scope cl C X.env) fp) .v elt fe)
    (hsw : swapsWith (.ListComp elt [⟨tg, iter, ifs, 0⟩] scope pos) (some (.Name y py)) spos.line X.env = pure true) (hy : X.N[i]? = some y := by rfl) (hyl : X.env.scope.names.lookup y = some .local := by rfl)
    (hsl : ∀ i ∈ sl, i ∈ own.map (·.2) := by decide) (hs : ∀ x, foldedSetIterable iter X.env x = pure x := by intro _; rfl) :
    XS Ex kd X (.Assign [.Name y py] (.ListComp elt [⟨tg, iter, ifs, 0⟩] scope pos) spos) (sOwn i (dComp it gD fc fe (own.map (·.2)))) := by
  obtain ⟨wi, hwi, qi⟩ := hi
  refine ⟨_, ps_setLc hc hN hy hyl hsw hwi ok (g := TGof X.K sl gD) (tt := TTof X.K Ex0 fc) (te := TEof X.K Ex0 .v fe) (fun s H C cl fp => (hg s H C cl fp).can) (fun s H C cl fp => (ht s H C cl fp).can) (fun s H C cl fp => (he s H C cl fp).can) hs, fun W A σ H env P De k p => ?_⟩
  refine lc_sd qi hsl W A σ H env P _ k ((PostS.bnd k p).mono ?_)
  rintro d _ H1 _ _ ⟨P1, e1, p1, k1, post⟩ v ⟨a, vs, ds, rfl, rfl, hn, hl, r⟩
  exact post _ _ H1 (k.setO e1 p1 i hn hl r)
end
end Vl
end
section
set_option autoImplicit false
set_option maxRecDepth 100000
/-! V11: defs: contracts by denotations, calls. -/
namespace Vl
open PySem L2

/-- a def's promise; gd: only where no repr is running -/
structure FnG (P : Program) (w : World) (K : PySem.W.Frag) (mg : Str → Option Value) (base : Heap) (gd : Bool) (k : Nat) (f : Addr) (fd : FuncData) (ps : List Str) (sp : Sp) : Prop where
  len : ∀ us H Q E, sp us H Q E → us.length = ps.length
  run : ∀ (A : Around) (outer : List PySem.Env) (s : Shared) (H : Hp) (args : Args) (us : List Value) (vs : List V) (Q : VK) (E : XK), Room k A → (gd = true → A.guards = some []) → Env0 P w K mg base A outer s H → BindsTo s fd args (ps.zip us) → Vals vs us → sp vs H Q E →
    codeAny (model P w) A (.call (.ref f) args) (CR (L2.CX P w) outer P w H s Q E) s

/-- error classes by name -/
abbrev EC := Str → Addr
def xk (ec : EC) (Ex : Str → Hp → Prop) : XK := fun cls d H => ∃ c, cls = .ref (ec c) ∧ d = none ∧ Ex c H
def exOf (ec : EC) (E : XK) : Str → Hp → Prop := fun c H => E (.ref (ec c)) none H
theorem xk_exOf {ec : EC} {E : XK} {cls : Value} {d : Option Addr} {H : Hp} (h : xk ec (exOf ec E) cls d H) : E cls d H := by
  obtain ⟨c, rfl, rfl, h⟩ := h
  exact h
theorem passX0 {X : Cx} {ec : EC} : Passes (L2.CX X.prog X.w) X (xk ec Ex0) := fun _ _ _ _ _ _ _ h => by
  obtain ⟨_, _, _, _, _, _, _, _, _, _, _, _, c, _, _, z⟩ := h
  exact z.elim
theorem passX {X : Cx} {ec : EC} {E : XK} (tk : Takes X (fun cls d _ H => E cls d H)) : Passes (L2.CX X.prog X.w) X (xk ec (exOf ec E)) := passes_call tk fun _ _ _ _ h => xk_exOf h

/-! ### contracts -/
/-- the arguments stand: contents, or the pen -/
def ArgOk (K : PySem.W.Frag) (pa : PL) (A : AS) (H : Hp) : SV → V → Prop
  | .v d, x => Rep K A H d x
  | .pen, x => ∃ p c, pa.pen = some (p, c) ∧ x = .ref p
  | .scr ns, x => ScrOk K A H x ns
  | _, _ => False
def ArgsOk (K : PySem.W.Frag) (pa : PL) (A : AS) (H : Hp) : List SV → List V → Prop
  | [], vs => vs = []
  | s :: ss, vs => ∃ v r, vs = v :: r ∧ ArgOk K pa A H s v ∧ ArgsOk K pa A H ss r
def spG (K : PySem.W.Frag) (ec : EC) (kd : Kd) (n : Nat) (den : List SV → M D) : Sp := fun vs H Q E => vs.length = n ∧ ∃ pa A ss P, (∀ a, A a → ∃ o, H a = some o ∧ Nt o) ∧ (∀ p c, pa.pen = some (p, c) → A p ∧ A c) ∧ PenOk pa H P ∧ ArgsOk K pa A H ss vs ∧
  PostG (exOf ec E) pa H (den ss P) (fun d H' => ∀ v, rel K pa A H H' d v kd → Q v H')
def denOf (n : Nat) (body : Env → M Fl) : List SV → M D := fun ss P => match body (ss ++ List.replicate (n - ss.length) .un) P with
  | .ok (.rt d) P' => .ok d P'
  | .ok (.nx _) P' => .ok .none P'
  | .ok _ _ => .no
  | .ex c P' => .ex c P'
  | .no => .no

section
variable {K : PySem.W.Frag} {pa : PL} {A : AS} {H : Hp}
theorem ArgsOk.length : ∀ {ss : List SV} {vs : List V}, ArgsOk K pa A H ss vs → vs.length = ss.length
  | [], _, h => by rw [show _ = [] from h]; rfl
  | _ :: _, _, ⟨_, _, e, _, t⟩ => by rw [e, List.length_cons, List.length_cons, ArgsOk.length t]
theorem ArgsOk.get : ∀ {ss : List SV} {vs : List V} {i : Nat} {s : SV} {v : V}, ArgsOk K pa A H ss vs → ss[i]? = some s → vs[i]? = some v → ArgOk K pa A H s v
  | [], _, _, _, _, _, e, _ => by simp at e
  | s :: ss, _, 0, _, _, ⟨v, r, e, h, t⟩, e1, e2 => by subst e; simp at e1 e2; subst e1 e2; exact h
  | s :: ss, _, i + 1, _, _, ⟨v, r, e, h, t⟩, e1, e2 => by subst e; exact ArgsOk.get t (by simpa using e1) (by simpa using e2)
theorem ArgOk.slot {s : SV} {v : V} (h : ArgOk K pa A H s v) : SlotOk K pa A H (some v) s := by
  cases s with
  | v d => exact ⟨v, rfl, h⟩
  | pen => obtain ⟨p, c, e, rfl⟩ := h; exact ⟨p, c, e, rfl⟩
  | scr ns => exact ⟨v, rfl, h⟩
  | un => exact h.elim
  | own _ => exact h.elim
theorem start_at {N : List Str} {vs : List V} {i : Nat} {o : Option V} (h : (L2.start N vs)[i]? = some o) : (∃ v, vs[i]? = some v ∧ o = some v) ∨ (vs.length ≤ i ∧ o = none) := by
  unfold L2.start at h
  by_cases hi : i < vs.length
  · rw [List.getElem?_append_left (by rw [List.length_map]; exact hi), List.getElem?_map, List.getElem?_eq_getElem hi] at h
    exact .inl ⟨_, List.getElem?_eq_getElem hi, (Option.some.inj h).symm⟩
  · rw [List.getElem?_append_right (by rw [List.length_map]; omega)] at h
    obtain ⟨h1, h2⟩ := List.getElem?_eq_some_iff.mp h
    rw [List.getElem_replicate] at h2
    exact .inr ⟨by omega, h2.symm⟩
/-- at a def's entry -/
theorem EOk.entry {N : List Str} {ss : List SV} {vs : List V} {P : Pen} (hA : ∀ a, A a → ∃ o, H a = some o ∧ Nt o) (hp : ∀ p c, pa.pen = some (p, c) → A p ∧ A c) (pk : PenOk pa H P) (r : ArgsOk K pa A H ss vs) (hl : vs.length ≤ N.length) :
    EOk K ⟨pa, H, A, []⟩ A (L2.start N vs) H (ss ++ List.replicate (N.length - ss.length) .un) P := by
  have e := r.length
  have own : ∀ (i : Nat) (ds : List D), (ss ++ List.replicate (N.length - ss.length) SV.un)[i]? = some (SV.own ds) → False := fun i ds h => by
    by_cases hi : i < ss.length
    · rw [List.getElem?_append_left hi] at h
      have hv : i < vs.length := by omega
      exact r.get h (List.getElem?_eq_getElem hv)
    · rw [List.getElem?_append_right (by omega)] at h
      obtain ⟨h1, h2⟩ := List.getElem?_eq_some_iff.mp h
      rw [List.getElem_replicate] at h2
      cases h2
  refine ⟨?_, fun i o s h1 h2 => ?_, fun i j ds es a _ h1 => (own i ds h1).elim, fun i ds a h1 => (own i ds h1).elim, fun _ h => h, hA, hA, hp, pk, HExt.refl _ _, fun g hg => nomatch hg⟩
  · unfold L2.start
    rw [List.length_append, List.length_append, List.length_map, List.length_replicate, List.length_replicate, e]
  · rcases start_at h1 with ⟨v, hv, rfl⟩ | ⟨hi, rfl⟩
    · have hi : i < vs.length := (List.getElem?_eq_some_iff.mp hv).1
      rw [List.getElem?_append_left (by omega)] at h2
      exact (r.get h2 hv).slot
    · rw [List.getElem?_append_right (by omega)] at h2
      obtain ⟨h3, h4⟩ := List.getElem?_eq_some_iff.mp h2
      rw [List.getElem_replicate] at h4
      subst h4
      trivial
end

section
variable {P : Program} {w : World} {K : PySem.W.Frag} {mg : Str → Option Value} {base : Heap} {ec : EC}
/-- THE RULE for a def -/
theorem fnG_of {gd : Bool} {x qual : Str} {st : Stmt} {f : Addr} {fd : FuncData} {N ps : List Str} {k : Nat} {kd : Kd} {body : Env → M Fl} (F : Fun K x qual st f fd) (S : FnScope N ps (defScope st)) (hkd : kd = .v ∨ ∀ ss P0 e P', body (ss ++ List.replicate (N.length - ss.length) .un) P0 ≠ .ok (.nx e) P')
    (hb : ∀ (cdv : Value) (A : Around) (outer : List PySem.Env) (s : Shared) (H : Hp) (E : XK), Room k (A.deeper (PyProof.Rows.envOfC qual (defScope st) s.heap.objs.size f cdv)) → (gd = true → A.guards = some []) →
      XSs (exOf ec E) kd (cxOf (L2.CX P w) P w K mg base N qual (defScope st) f cdv A outer s H E) (defBody st) body) :
    FnG P w K mg base gd (k + 1) f fd ps (spG K ec kd ps.length (denOf N.length body)) := by
  refine ⟨fun vs H Q E h => h.1, fun A outer s H args us vs Q E hr hg e0 hbd rv hsp => ?_⟩
  obtain ⟨hl, pa, A0, ss, P0, hA, hp, pk, hargs, post⟩ := hsp
  obtain ⟨oc, od, kV, doc, pm, an, cdv, ct, osl, rfl, lk, hcd⟩ := (F.ex)
  refine LamX.run_ofS lk hcd S hr e0 hbd rv hl fun hr' => ?_
  obtain ⟨t, ht, q⟩ := hb cdv A outer s H E hr' hg
  have hpre : ps.length ≤ N.length := by
    have := congrArg List.length S.pre
    rw [List.length_take] at this
    omega
  refine ⟨t, ht, q ⟨pa, H, A0, []⟩ A0 _ H _ P0 _ (EOk.entry hA hp pk hargs (by omega)) ?_⟩
  unfold denOf at post
  cases hbody : body (ss ++ List.replicate (N.length - ss.length) .un) P0 with
  | ok o P' =>
    rw [hbody] at post
    cases o with
    | nx e =>
      rcases hkd with rfl | hne
      · exact fun A' σ' H' k' => post H' k'.base k'.pen .non rfl
      · exact absurd hbody (hne ss P0 e P')
    | rt d => exact fun v H' e p r => post H' e p v r
    | bk e => exact post.elim
    | ct e => exact post.elim
  | ex c P' => rw [hbody] at post; exact post
  | no => rw [hbody] at post; exact post
end

/-! ### calls -/
section
variable {gd : Bool} {X : Cx} {k : Nat} {f : Addr} {fd : FuncData} {ps : List Str} {sp : Sp} {E : XK} {x : Str} {p pos : Pos} {e : Expr} {es : List Expr} {t : L2.TA} {ec : EC}
theorem run_fnG {pins : List (Addr × Obj)} {σ : L2.St} {H : Hp} {s : Shared} {Q : VK} {us : List Value} {vs : List V} (F : FnG X.prog X.w X.K X.mg X.base gd k f fd ps sp) (hr : Room k X.A) (hg : gd = true → X.A.guards = some []) (hb : Binds X.K fd ps []) (hx : Passes (L2.CX X.prog X.w) X E)
    (I : Inv X pins σ H s) (r : Vals vs us) (h : sp vs H Q E) : wpAny (model X.prog X.w) X.A (call (.ref f) us) (EP X pins σ Q) X.xe s := by
  have hl : (us.length = ps.length) := by rw [← r.length]; exact F.len _ _ _ _ h
  have hbd := hb s us I.kIn (by rw [List.append_nil]; exact hl)
  rw [List.append_nil] at hbd
  refine wpAny_call (codeAny_mono (F.run X.A X.stack s H ⟨us, []⟩ us vs Q E hr hg I.env0 hbd r h) fun res s' hq => ?_)
  match res, hq with
  | .error e, hq => exact hx pins σ H s e s' I hq
  | .ok (.ret u), hq => exact I.after hq
  | .ok .next, hq => exact hq.elim
  | .ok .brk, hq => exact hq.elim
  | .ok .cont, hq => exact hq.elim
theorem pe_callG (F : FnG X.prog X.w X.K X.mg X.base gd k f fd ps sp) (hr : Room k X.A) (hgd : gd = true → X.A.guards = some []) (hm : X.mg x = some (.ref f)) (hk : PySem.W.keepIn X.K (.ref f) = true) (hb : Binds X.K fd ps []) (hx : Passes (L2.CX X.prog X.w) X E)
    (ha : PA X (e :: es) t) (hg : Gl X x := by rfl) (hdb : (x == ("__debug__" : Str)) = false := by decide) (he : starEach (e :: es) X.env = (false, eval e X.env) :: starEach es X.env := by rfl) (hpl : (backTo pos (starEach es X.env)).any (·.1) = false := by rfl) :
    PE X (.Call (.Name x p) (e :: es) [] pos) (tCall sp [] E t) := by
  refine ⟨fun pins s σ H Q I h => wpAny_Call_Name_kw (ld_glob I hg hm ?_ hdb)⟩
  refine PySem.W.callWith_K (h₀ := X.base) I.ok.mod.kin hk (thn (ha.run pos pins s σ H _ I h) fun us s1 ⟨vs, H1, I1, r, q⟩ => ⟨I1.kIn, run_fnG F hr hgd hb hx I1 r ?_⟩) he hpl
  have q' : sp (vs ++ []) H1 Q E := q
  rw [List.append_nil] at q'
  exact q'
theorem pe_callG0 (F : FnG X.prog X.w X.K X.mg X.base gd k f fd ps sp) (hr : Room k X.A) (hgd : gd = true → X.A.guards = some []) (hm : X.mg x = some (.ref f)) (hk : PySem.W.keepIn X.K (.ref f) = true) (hb : Binds X.K fd ps []) (hx : Passes (L2.CX X.prog X.w) X E)
    (hg : Gl X x := by rfl) (hdb : (x == ("__debug__" : Str)) = false := by decide) : PE X (.Call (.Name x p) [] [] pos) (tCall sp [] E tNil) :=
  ⟨fun pins s σ H Q I h => wpAny_Call_Name_kw (ld_glob I hg hm (PySem.W.callWith_K0 I.kIn hk (run_fnG (us := []) F hr hgd hb hx I .nil h)) hdb)⟩
end
/-- a def that has no pen -/
def dCall (n : Nat) (den : List SV → M D) (g : Env → M (List D)) : Env → M D := fun env => bnd (g env) fun ds => fun P => if ds.length = n then (match den (ds.map .v) P with
  | .ok d _ => .ok d P
  | .ex c _ => .ex c P
  | .no => .no) else .no
/-- a def whose first argument is the pen, in slot i -/
def dPen (i n : Nat) (den : List SV → M D) (g : Env → M (List D)) : Env → M D := fun env => match env[i]? with
  | some .pen => bnd (g env) fun ds => if ds.length + 1 = n then den (.pen :: ds.map .v) else no
  | _ => no
section
variable {gd : Bool} {Ex : Str → Hp → Prop} {X : Cx} {k : Nat} {f : Addr} {fd : FuncData} {ps : List Str} {kd : Kd} {x y : Str} {p pos py : Pos} {e : Expr} {es : List Expr} {ec : EC} {den : List SV → M D} {g : Env → M (List D)} {n : Nat}
theorem args_of {K : PySem.W.Frag} {pa : PL} {A : AS} {H : Hp} : ∀ {ds : List D} {vs : List V}, Reps K A H ds vs → ArgsOk K pa A H (ds.map .v) vs
  | [], _, h => h
  | _ :: _, _, ⟨v, r, e, h, t⟩ => ⟨v, r, e, h, args_of t⟩
theorem rel_none {K : PySem.W.Frag} {pa : PL} {A : AS} {H H' : Hp} {d : D} {v : V} (h : rel K pa.bare A H H' d v kd) (hkd : kd ≠ .b) : rel K pa A H H' d v kd := by
  cases kd with
  | v => exact h
  | f => exact h
  | b => exact absurd rfl hkd
theorem call_sp {W : Wd} {A : AS} {σ : L2.St} {H1 : Hp} {env : Env} {P1 : Pen} {Q : VK} {ds : List D} {vs : List V} (k1 : EOk X.K W A σ H1 env P1) (hkd : kd ≠ .b) (rs : Reps X.K A H1 ds vs)
    (post : PostG Ex W.pa H1 ((fun P => if ds.length = n then (match den (ds.map .v) P with
      | .ok d _ => R.ok d P
      | .ex c _ => .ex c P
      | .no => .no) else .no) P1) (fun d H' => ∀ v, rel X.K W.pa A H1 H' d v kd → Q v H')) : spG X.K ec kd n den vs H1 Q (xk ec Ex) := by
  dsimp only at post
  by_cases hn : ds.length = n
  · rw [if_pos hn] at post
    refine ⟨by rw [rs.length]; exact hn, W.pa.bare, A, ds.map .v, P1, k1.trk, (fun p c z => nomatch z), ⟨(fun p c z => nomatch z), k1.pen.2⟩, args_of rs, ?_⟩
    cases hd : den (ds.map .v) P1 with
    | ok d P' =>
      rw [hd] at post
      exact fun H' e pk v r => post H' (HExt.none e) (HExt.penOk e k1.pen pk) v (rel_none r hkd)
    | ex c P' =>
      rw [hd] at post
      exact fun H' e pk => ⟨c, rfl, rfl, post H' (HExt.none e) (HExt.penOk e k1.pen pk)⟩
    | no => rw [hd] at post; exact post.elim
  · rw [if_neg hn] at post; exact post.elim
theorem x_call (F : FnG X.prog X.w X.K X.mg X.base gd k f fd ps (spG X.K ec kd n den)) (hr : Room k X.A) (hgd : gd = true → X.A.guards = some []) (hm : X.mg x = some (.ref f)) (hk : PySem.W.keepIn X.K (.ref f) = true) (hb : Binds X.K fd ps []) (hx : Passes (L2.CX X.prog X.w) X (xk ec Ex))
    (ha : XA Ex X (e :: es) g) (hkd : kd ≠ .b := by decide) (hg : Gl X x := by rfl) (hdb : (x == ("__debug__" : Str)) = false := by decide) (he : starEach (e :: es) X.env = (false, eval e X.env) :: starEach es X.env := by rfl) (hpl : (backTo pos (starEach es X.env)).any (·.1) = false := by rfl) :
    XE Ex X kd (.Call (.Name x p) (e :: es) [] pos) (dCall n den g) := by
  obtain ⟨t, ht, q⟩ := ha
  refine ⟨_, pe_callG F hr hgd hm hk hb hx ht hg hdb he hpl, fun W A σ H env P Q k p => ?_⟩
  refine q W A σ H env P _ k ((PostG.bnd k p).mono ?_)
  rintro ds _ H1 _ _ ⟨P1, e1, p1, k1, post⟩ vs rs
  show spG X.K ec kd n den (vs ++ []) H1 Q (xk ec Ex)
  rw [List.append_nil]
  refine call_sp k1 hkd rs (post.mono fun d P' H' e2 _ z v r => z (e1.trans e2) v (rel_back k.pen e1 p1 r))
theorem x_call0 (F : FnG X.prog X.w X.K X.mg X.base gd k f fd ps (spG X.K ec kd n den)) (hr : Room k X.A) (hgd : gd = true → X.A.guards = some []) (hm : X.mg x = some (.ref f)) (hk : PySem.W.keepIn X.K (.ref f) = true) (hb : Binds X.K fd ps []) (hx : Passes (L2.CX X.prog X.w) X (xk ec Ex))
    (hkd : kd ≠ .b := by decide) (hg : Gl X x := by rfl) (hdb : (x == ("__debug__" : Str)) = false := by decide) : XE Ex X kd (.Call (.Name x p) [] [] pos) (dCall n den aNil) := by
  refine ⟨_, pe_callG0 F hr hgd hm hk hb hx hg hdb, fun W A σ H env P Q k p => ?_⟩
  show spG X.K ec kd n den ([] ++ []) H Q (xk ec Ex)
  exact call_sp (ds := []) k hkd rfl p
theorem x_pen (i : Nat) (F : FnG X.prog X.w X.K X.mg X.base gd k f fd ps (spG X.K ec kd n den)) (hr : Room k X.A) (hgd : gd = true → X.A.guards = some []) (hm : X.mg x = some (.ref f)) (hk : PySem.W.keepIn X.K (.ref f) = true) (hb : Binds X.K fd ps []) (hx : Passes (L2.CX X.prog X.w) X (xk ec Ex))
    (ha : XA Ex X es g) (hN : X.N[i]? = some y := by rfl) (hv : Vis X.env.scope y := by first | exact Or.inl rfl | exact Or.inr (Or.inl rfl) | exact Or.inr (Or.inr rfl)) (hd : (y == ("__debug__" : Str)) = false := by decide) (hcd : (y == ("__classdict__" : Str)) = false := by decide)
    (hkd : kd ≠ .b := by decide) (hg : Gl X x := by rfl) (hdb : (x == ("__debug__" : Str)) = false := by decide) (he : starEach (.Name y py :: es) X.env = (false, eval (.Name y py) X.env) :: starEach es X.env := by rfl) (hpl : (backTo pos (starEach es X.env)).any (·.1) = false := by rfl) :
    XE Ex X kd (.Call (.Name x p) (.Name y py :: es) [] pos) (dPen i n den g) := by
  obtain ⟨t, ht, q⟩ := ha
  refine ⟨_, pe_callG F hr hgd hm hk hb hx (pa_cons (pe_var hN hv hd hcd) ht he) hg hdb he hpl, fun W A σ H env P Q k p => ?_⟩
  unfold dPen at p
  cases h : env[i]? with
  | none => rw [h] at p; exact p.elim
  | some s =>
    rw [h] at p
    cases s with
    | pen =>
      obtain ⟨o, eo, pp, c, hpa, rfl⟩ := k.at h
      refine ⟨.ref pp, eo, ?_⟩
      refine q W A σ H env P _ k ((PostG.bnd k p).mono ?_)
      rintro ds _ H1 _ _ ⟨P1, e1, p1, k1, post⟩ vs rs
      show spG X.K ec kd n den ((.ref pp :: vs) ++ []) H1 Q (xk ec Ex)
      rw [List.append_nil]
      by_cases hn : ds.length + 1 = n
      · rw [if_pos hn] at post
        refine ⟨by rw [List.length_cons, rs.length]; exact hn, W.pa, A, .pen :: ds.map .v, P1, k1.trk, k1.penA, k1.pen, ⟨_, vs, rfl, ⟨pp, c, hpa, rfl⟩, args_of rs⟩, ?_⟩
        cases hd : den (.pen :: ds.map .v) P1 with
        | ok d P' =>
          rw [hd] at post
          exact fun H' e p v r => post H' e p (e1.trans e) v (rel_back k.pen e1 p1 r)
        | ex c P' =>
          rw [hd] at post
          exact fun H' e p => ⟨c, rfl, rfl, post H' e p⟩
        | no => rw [hd] at post; exact post.elim
      · rw [if_neg hn] at post; exact post.elim
    | v d => exact p.elim
    | un => exact p.elim
    | own ds => exact p.elim
    | scr _ => exact p.elim
/-- a def that reads lists that are not handed over, its answer no list -/
def dCallB (n : Nat) (den : List SV → M D) (g : Env → M (List D)) : Env → M D := fun env => bnd (g env) fun ds => fun P => if ds.length = n then (match den (ds.map .v) P with
  | .ok d _ => if plainD d then .ok d P else .no
  | .ex c _ => .ex c P
  | .no => .no) else .no
theorem repsB_length {K : PySem.W.Frag} {pa : PL} {A : AS} {H : Hp} : ∀ {ds : List D} {vs : List V}, RepsB K pa A H ds vs → vs.length = ds.length
  | [], _, h => by rw [show _ = [] from h]; rfl
  | _ :: _, _, ⟨_, _, e, _, h⟩ => by rw [e, List.length_cons, List.length_cons, repsB_length h]
theorem repB_less {K : PySem.W.Frag} {pa : PL} {A : AS} {H : Hp} : ∀ {ds : List D} {vs : List V} (us : List V), RepsB K pa A H ds vs → (∀ v ∈ vs, v ∈ us) → ArgsOk K pa.bare (fun b => A b ∧ ∀ x ∈ us, x ≠ V.ref b) H (ds.map .v) vs
  | [], _, _, h, _ => h
  | d :: ds, _, us, ⟨v, r, e, h, t⟩, hm => by
    subst e
    have st : Stay A (fun b => A b ∧ ∀ x ∈ us, x ≠ V.ref b) H H := fun b u e _ n => ⟨e, fun z => n z.1⟩
    refine ⟨v, r, rfl, ?_, repB_less us t fun x hx => hm x (List.mem_cons_of_mem _ hx)⟩
    cases d with
    | list es =>
      obtain ⟨a, ws, rfl, l, q⟩ := h
      exact ⟨a, ws, rfl, ⟨l.1, fun z => z.2 _ (hm _ List.mem_cons_self) rfl⟩, Reps.mono st _ _ q⟩
    | none | bool _ | int _ | str _ | tuple _ | dict _ => exact Rep.mono st _ _ h
theorem x_callB (F : FnG X.prog X.w X.K X.mg X.base gd k f fd ps (spG X.K ec .v n den)) (hr : Room k X.A) (hgd : gd = true → X.A.guards = some []) (hm : X.mg x = some (.ref f)) (hk : PySem.W.keepIn X.K (.ref f) = true) (hb : Binds X.K fd ps []) (hx : Passes (L2.CX X.prog X.w) X (xk ec Ex))
    (ha : XB Ex X (e :: es) g) (hg : Gl X x := by rfl) (hdb : (x == ("__debug__" : Str)) = false := by decide) (he : starEach (e :: es) X.env = (false, eval e X.env) :: starEach es X.env := by rfl) (hpl : (backTo pos (starEach es X.env)).any (·.1) = false := by rfl) :
    XE Ex X .v (.Call (.Name x p) (e :: es) [] pos) (dCallB n den g) := by
  obtain ⟨t, ht, q⟩ := ha
  refine ⟨_, pe_callG F hr hgd hm hk hb hx ht hg hdb he hpl, fun W A σ H env P Q k p => ?_⟩
  refine q W A σ H env P _ k ((PostG.bnd k p).mono ?_)
  rintro ds _ H1 _ _ ⟨P1, e1, p1, k1, post⟩ vs rs
  show spG X.K ec .v n den (vs ++ []) H1 Q (xk ec Ex)
  rw [List.append_nil]
  by_cases hn : ds.length = n
  · rw [if_pos hn] at post
    refine ⟨by rw [repsB_length rs]; exact hn, W.pa.bare, fun b => A b ∧ ∀ x ∈ vs, x ≠ V.ref b, ds.map .v, P1, fun b hb => k1.trk b hb.1, (fun p c z => nomatch z), ⟨(fun p c z => nomatch z), k1.pen.2⟩, repB_less vs rs fun _ h => h, ?_⟩
    cases hd : den (ds.map .v) P1 with
    | ok d P' =>
      rw [hd] at post
      dsimp only at post
      by_cases hp : plainD d = true
      · rw [if_pos hp] at post
        exact fun H' e pk v r => post H' (HExt.none e) (HExt.penOk e k1.pen pk) (e1.trans (HExt.none e)) v (by cases d <;> first | exact (show Rep X.K _ H' _ v from r) | exact r | cases hp)
      · rw [if_neg hp] at post; exact post.elim
    | ex c P' =>
      rw [hd] at post
      exact fun H' e pk => ⟨c, rfl, rfl, post H' (HExt.none e) (HExt.penOk e k1.pen pk)⟩
    | no => rw [hd] at post; exact post.elim
  · rw [if_neg hn] at post; exact post.elim
end
end Vl
end
section
set_option autoImplicit false
set_option maxRecDepth 100000
/-! V12: assignments to several names, append, raise, methods. -/
namespace Vl
open PySem L2

def sAsg (f : Env → M D) (tg : D → Env → Option Env) : Env → M Fl := fun env => bnd (f env) fun d => match tg d env with
  | some e => ret (.nx e)
  | none => no
def sPar2 (i j : Nat) (f : Env → M (List D)) : Env → M Fl := fun env => bnd (f env) fun
  | [a, b] => ret (.nx ((env.set i (.v a)).set j (.v b)))
  | _ => no
def sPar3 (i j l : Nat) (f : Env → M (List D)) : Env → M Fl := fun env => bnd (f env) fun
  | [a, b, c] => ret (.nx (((env.set i (.v a)).set j (.v b)).set l (.v c)))
  | _ => no
def sApp (i : Nat) (f : Env → M D) : Env → M Fl := fun env => match env[i]? with
  | some (.own ds) => bnd (f env) fun d => if ds.length < 16777216 then ret (.nx (env.set i (.own (ds ++ [d])))) else no
  | _ => no
def sRaise (c : Str) : Env → M Fl := fun _ => raiseM c
section
variable {Ex : Str → Hp → Prop} {kd : Kd} {X : Cx} {pos : Pos} {tg e a b c : Expr} {es : List Expr} {fa : Env → M D} {g : Env → M (List D)} {gD : D → Env → Option Env} {x y z : Str} {sl : List Nat} {px py pz pt : Pos} {kt k2 : Nat} {pt2 : Pos}
theorem xs_asg (he : XE Ex X .v e fa) (hg : XG X tg sl gD) (hs : swapsWithSole [tg] e pos.line X.env = pure false := by rfl) (hw : swappedStores [tg] e X.env = pure none := by rfl) (h1 : (assignEach [tg] X.env).map (·.2) = [assign tg X.env] := by rfl) :
    XS Ex kd X (.Assign [tg] e pos) (sAsg fa gD) := by
  obtain ⟨t, ht, q⟩ := he
  obtain ⟨u, hu, qg⟩ := hg
  refine ⟨_, ps_asg ht hu hs hw h1, fun W A σ H env P De k p => ?_⟩
  refine q W A σ H env P _ k ((PostS.bnd k p).mono ?_)
  rintro d _ H1 _ _ ⟨P1, e1, p1, k1, post⟩ v r
  cases hd : gD d env with
  | none => rw [hd] at post; exact post.elim
  | some e' =>
    rw [hd] at post
    exact qg W A σ H1 env P1 d v e' _ k1 r hd fun σ' _ k' => post A σ' H1 k'
theorem xs_par2 (i j : Nat) (hc : X.calm = true) (hN : X.N.Nodup) (ha : XA Ex X [a, b] g) (hw : swappedStores [.Tuple [.Name x px, .Name y py] kt pt] (.Tuple [a, b] k2 pt2) X.env = pure (some [x, y])) (hi : X.N[i]? = some x := by rfl) (hj : X.N[j]? = some y := by rfl) (hij : i ≠ j := by decide)
    (hx : X.env.scope.names.lookup x = some .local := by rfl) (hy : X.env.scope.names.lookup y = some .local := by rfl) (hs : swapsWithSole [.Tuple [.Name x px, .Name y py] kt pt] (.Tuple [a, b] k2 pt2) pos.line X.env = pure false := by rfl) :
    XS Ex kd X (.Assign [.Tuple [.Name x px, .Name y py] kt pt] (.Tuple [a, b] k2 pt2) pos) (sPar2 i j g) := by
  obtain ⟨t, ht, q⟩ := ha
  refine ⟨_, ps_par hc hN hi hj hij hx hy ht hw hs, fun W A σ H env P De k p => ?_⟩
  refine q W A σ H env P _ k ((PostS.bnd k p).mono ?_)
  rintro ds _ H1 _ _ ⟨P1, e1, p1, k1, post⟩ vs rs
  match ds, rs, post with
  | [d1, d2], rs, post =>
    obtain ⟨v1, _, rfl, r1, v2, _, rfl, r2, h⟩ := rs
    cases (show _ = [] from h)
    exact ⟨v1, v2, rfl, post A _ H1 ((k1.setV i r1).setV j r2)⟩
  | [], _, post => exact post.elim
  | [_], _, post => exact post.elim
  | _ :: _ :: _ :: _, _, post => exact post.elim
theorem xs_par3 (i j l : Nat) (hc : X.calm = true) (hN : X.N.Nodup) (ha : XA Ex X [a, b, c] g) (hw : swappedStores [.Tuple [.Name x px, .Name y py, .Name z pz] kt pt] (.Tuple [a, b, c] k2 pt2) X.env = pure (some [x, y, z])) (hi : X.N[i]? = some x := by rfl) (hj : X.N[j]? = some y := by rfl) (hl : X.N[l]? = some z := by rfl)
    (hij : i ≠ j := by decide) (hil : i ≠ l := by decide) (hjl : j ≠ l := by decide) (hx : X.env.scope.names.lookup x = some .local := by rfl) (hy : X.env.scope.names.lookup y = some .local := by rfl) (hz : X.env.scope.names.lookup z = some .local := by rfl)
    (hs : swapsWithSole [.Tuple [.Name x px, .Name y py, .Name z pz] kt pt] (.Tuple [a, b, c] k2 pt2) pos.line X.env = pure false := by exact rfl) :
    XS Ex kd X (.Assign [.Tuple [.Name x px, .Name y py, .Name z pz] kt pt] (.Tuple [a, b, c] k2 pt2) pos) (sPar3 i j l g) := by
  obtain ⟨t, ht, q⟩ := ha
  refine ⟨_, ps_par3 hc hN hi hj hl hij hil hjl hx hy hz ht hw hs, fun W A σ H env P De k p => ?_⟩
  refine q W A σ H env P _ k ((PostS.bnd k p).mono ?_)
  rintro ds _ H1 _ _ ⟨P1, e1, p1, k1, post⟩ vs rs
  match ds, rs, post with
  | [d1, d2, d3], rs, post =>
    obtain ⟨v1, _, rfl, r1, v2, _, rfl, r2, v3, _, rfl, r3, h⟩ := rs
    cases (show _ = [] from h)
    exact ⟨v1, v2, v3, rfl, post A _ H1 (((k1.setV i r1).setV j r2).setV l r3)⟩
  | [], _, post => exact post.elim
  | [_], _, post => exact post.elim
  | [_, _], _, post => exact post.elim
  | _ :: _ :: _ :: _ :: _, _, post => exact post.elim
/-- x.append(e) -/
theorem xs_app (i : Nat) {apos cpos : Pos} (he : XE Ex X .v e fa) (hN : X.N[i]? = some x := by rfl) (hv : Vis X.env.scope x := by first | exact Or.inl rfl | exact Or.inr (Or.inl rfl) | exact Or.inr (Or.inr rfl)) (hd : (x == ("__debug__" : Str)) = false := by decide) (hcd : (x == ("__classdict__" : Str)) = false := by decide)
    (hbase : attributeBase (.Name x px) "append" X.env (eval (.Name x px) X.env) = eval (.Name x px) X.env := by rfl)
    (hfew : ((backTo cpos (starEach [e] X.env)).all (fun x => !x.1) && (backToKw cpos (keywordEach [] X.env)).all (fun x => x.1.isSome) && decide ([e].length + ([] : List Keyword).length + (if ([] : List Keyword).isEmpty then 0 else 1) < 30)) = true := by rfl)
    (hline : (apos.endLine == cpos.line) = true := by rfl) (hs : starEach [e] X.env = (false, eval e X.env) :: starEach [] X.env := by rfl) (hplain : (backTo cpos (starEach [] X.env)).any (·.1) = false := by rfl)
    (hsw : swapsWith (.Call (.Attribute (.Name x px) "append" apos) [e] [] cpos) none pos.line X.env = pure false := by rfl) :
    XS Ex kd X (.Expr (.Call (.Attribute (.Name x px) "append" apos) [e] [] cpos) pos) (sApp i fa) := by
  obtain ⟨t, ht, q⟩ := he
  refine ⟨_, ps_expr (pe_bm PySem.F.plainAttrs_list PySem.F.slot_list_append PySem.F.type_list_append mt_append (pe_var hN hv hd hcd) (pa_cons ht pa_nil hs) hbase hfew hline hs hplain) hsw, fun W A σ H env P De k p => ?_⟩
  unfold sApp at p
  cases h : env[i]? with
  | none => rw [h] at p; exact p.elim
  | some sv =>
    rw [h] at p
    cases sv with
    | own ds =>
      obtain ⟨o, eo, al, vs, rfl, ha, np, hl, rds⟩ := k.at h
      refine ⟨.ref al, eo, .inl ⟨rfl, vs, .inl (.inl hl)⟩, ?_⟩
      refine q W A σ H env P _ k ((PostS.bnd k p).mono ?_)
      rintro d _ H1 _ _ ⟨P1, e1, p1, k1, post⟩ v r
      by_cases hn : ds.length < 16777216
      · rw [if_pos hn] at post
        have hl1 : H1 al = some (.lst vs) := e1.at hl fun ⟨c, z⟩ => (np _ _ z).1 rfl
        refine ⟨al, vs, v, rfl, rfl, hl1, by rw [rds.length, sizeLine_eq]; exact hn, ?_⟩
        exact post A σ _ (k1.write h eo ((k.reps e1 rds).append (Reps.one r)))
      · rw [if_neg hn] at post; exact post.elim
    | v d => exact p.elim
    | un => exact p.elim
    | pen => exact p.elim
    | scr _ => exact p.elim
/-- raise X('..') of an own class -/
theorem xs_raise {ec : EC} {E : XK} {C : Addr} {B newId initId : String} {bmB : List Value} {m : Str} {j : Nat} {p p2 rp : Pos} (c : Str) (hc : X.calm = true) (tk : Takes X (fun cls d _ H => E cls d H)) (F : ExcBaseFacts B newId initId bmB) (q : PySem.W.excIn X.K C bmB newId = true) (gC : X.mg x = some (.ref C)) (kC : PySem.W.keepIn X.K (.ref C) = true)
    (r : Raises X (.ref C)) (hcC : ec c = C) (hg : Gl X x := by rfl) (hdb : (x == ("__debug__" : Str)) = false := by decide) : XS (exOf ec E) kd X (.Raise (some (.Call (.Name x p) [.Constant (.str m) j p2] [] pos)) none rp) (sRaise c) := by
  refine ⟨_, ps_raise hc tk (pmk_own F q gC kC r hg hdb), fun W A σ H env P De k post => ?_⟩
  subst hcC
  exact post H k.base k.pen
end
end Vl
end
section
set_option autoImplicit false
set_option maxRecDepth 100000
/-! V13: methods of built-in values. -/
namespace Vl
open PySem L2

/-- the value is of that built-in type, with no dict of its own -/
def tyW (K : PySem.W.Frag) (T : String) (x : V) (H : Hp) : Prop := tyV K T x H ∨ (T = "tuple" ∧ ∃ p o xs, x = .ref p ∧ H p = some (.frz o (.tup xs)) ∧ o.dict = none)
section
variable {X : Cx} {o e : Expr} {es : List Expr} {to : TE} {t : L2.TA} {name : Str} {apos cpos : Pos} {T id : String} {r : V → List V → Hp → VK → Prop}
theorem tyW_is {pins : List (Addr × Obj)} {σ : L2.St} {H : Hp} {s : Shared} {x : V} {v : Value} (I : L2.Inv X pins σ H s) (r : RelV x v) (ty : tyW X.K T x H) : s.TypeIs v T ∧ ∀ a, v = .ref a → ∃ ob, s.heap.get? a = some ob ∧ ob.dict = none := by
  rcases ty with ty | ⟨rfl, p, o, xs, rfl, h, hd⟩
  · exact tyV_is I r ty
  · cases r
    obtain ⟨e1, _, _, _, ob, e2, hc, _⟩ := (show ObjOk X.prog X.w H s.heap p (.frz o (.tup xs)) from I.hok p _ h)
    exact ⟨⟨ob, e2, hc⟩, fun a z => by cases z; exact ⟨o, e1, hd⟩⟩
def tBW0 (K : PySem.W.Frag) (T : String) (r : V → List V → Hp → VK → Prop) (to : TE) : TE := fun σ H Q => to σ H fun x H1 => tyW K T x H1 ∧ r x [] H1 Q
def tBW (K : PySem.W.Frag) (T : String) (r : V → List V → Hp → VK → Prop) (to : TE) (t : L2.TA) : TE := fun σ H Q => to σ H fun x H1 => tyW K T x H1 ∧ t σ H1 fun xs H2 => r x xs H2 Q
theorem pe_bw0 (pa : PlainAttrs T) (slot : Slot T name id) (hty : typeOf (.builtin id) = pure (.type "method_descriptor")) (hm : MtR X id r) (ho : PE X o to)
    (hbase : attributeBase o name X.env (eval o X.env) = eval o X.env := by rfl) (hline : (apos.endLine == cpos.line) = true := by rfl) : PE X (.Call (.Attribute o name apos) [] [] cpos) (tBW0 X.K T r to) := by
  refine ⟨fun pins s σ H Q I h => wpAny_Call_method0_late hbase hline (thn (ho.run pins s σ H _ I h) fun v s1 ⟨x, H1, I1, r1, ty, q1⟩ => ?_)⟩
  have hh := tyW_is I1 r1 ty
  exact ⟨T, id, pa, slot, hty, hh.1, hh.2, Calls.callWith_builtin rfl (PySem.evalArgs_none (hm pins s1 σ H1 x [] v [] Q I1 r1 .nil q1))⟩
theorem pe_bw (pa : PlainAttrs T) (slot : Slot T name id) (hty : typeOf (.builtin id) = pure (.type "method_descriptor")) (hm : MtR X id r) (ho : PE X o to) (ha : PA X (e :: es) t)
    (hbase : attributeBase o name X.env (eval o X.env) = eval o X.env := by exact rfl)
    (hfew : ((backTo cpos (starEach (e :: es) X.env)).all (fun x => !x.1) && (backToKw cpos (keywordEach [] X.env)).all (fun x => x.1.isSome) && decide ((e :: es).length + ([] : List Keyword).length + (if ([] : List Keyword).isEmpty then 0 else 1) < 30)) = true := by rfl)
    (hline : (apos.endLine == cpos.line) = true := by exact rfl) (hs : starEach (e :: es) X.env = (false, eval e X.env) :: starEach es X.env := by rfl) (hplain : (backTo cpos (starEach es X.env)).any (·.1) = false := by rfl) :
    PE X (.Call (.Attribute o name apos) (e :: es) [] cpos) (tBW X.K T r to t) := by
  refine ⟨fun pins s σ H Q I h => wpAny_Call_method_late hbase hfew hline rfl (thn (ho.run pins s σ H _ I h) fun v s1 ⟨x, H1, I1, r1, ty, q1⟩ => ?_)⟩
  have hh := tyW_is I1 r1 ty
  refine ⟨T, id, pa, slot, hty, hh.1, hh.2, ?_⟩
  have hA := (ha.run cpos pins s1 σ H1 _ I1 q1)
  rw [hs] at hA ⊢
  refine Calls.callWith_builtin (show (false || (backTo cpos (starEach es X.env)).any (·.1)) = false by rw [hplain]; rfl) (Calls.evalArgs_plain (thn hA fun us s2 ⟨vs, H2, I2, r2, q2⟩ => ?_))
  exact hm pins s2 σ H2 x vs v us Q I2 r1 r2 q2
end
def MethD (K : PySem.W.Frag) (kd : Kd) (r : V → List V → Hp → VK → Prop) (g : D → List D → Option D) : Prop := ∀ (W : Wd) (A : AS) (σ : L2.St) (H : Hp) (env : Env) (P : Pen) (x : V) (vs : List V) (dx : D) (ds : List D) (d : D) (Q : VK),
  EOk K W A σ H env P → RepB K W.pa A H dx x → RepsB K W.pa A H ds vs → g dx ds = some d → (∀ v H', Same H H' → rel K W.pa A H H' d v kd → Q v H') → r x vs H Q
def dMeth (T : String) (g : D → List D → Option D) (fo : Env → M D) (fs : Env → M (List D)) : Env → M D := fun env => bnd (fo env) fun dx => if tyD dx = T then bnd (fs env) fun ds => orNo (g dx ds) else no
section
variable {Ex : Str → Hp → Prop} {X : Cx} {o e : Expr} {es : List Expr} {fo : Env → M D} {fs : Env → M (List D)} {name : Str} {apos cpos : Pos} {T id : String} {r : V → List V → Hp → VK → Prop} {g : D → List D → Option D} {kd : Kd}
theorem ty_w' {K : PySem.W.Frag} {pa : PL} {A : AS} {H : Hp} {d : D} {x : V} (hT : T = "str" ∨ T = "list" ∨ T = "tuple" ∨ T = "dict") (h : tyD d = T) (rx : RepB K pa A H d x) : tyW K T x H := by
  cases d with
  | tuple xs =>
    obtain ⟨a, vs, rfl, l, _⟩ := rx
    rcases l with ⟨ob, h1, h2, _⟩ | ⟨ob, its, n, h1, h2, _, _, _, h6⟩
    · exact .inr ⟨h.symm, a, ob, vs, rfl, h1, h2⟩
    · exact .inl (.inr (.inl ⟨h.symm, ob, h1, h2, h6⟩))
  | str z => cases (show x = _ from rx); exact .inl h.symm
  | list xs => obtain ⟨a, vs, rfl, l, _⟩ := rx; exact .inl (.inl ⟨h.symm, vs, l.sq⟩)
  | none => rcases hT with rfl | rfl | rfl | rfl <;> simp [tyD] at h
  | bool _ => rcases hT with rfl | rfl | rfl | rfl <;> simp [tyD] at h
  | int _ => rcases hT with rfl | rfl | rfl | rfl <;> simp [tyD] at h
  | dict _ => obtain ⟨a, kv, rfl, l, _⟩ := rx; exact .inl (.inr (.inr (.inl ⟨h.symm, .inl ⟨kv, l.1⟩⟩)))
theorem x_meth (pa : PlainAttrs T) (slot : Slot T name id) (hty : typeOf (.builtin id) = pure (.type "method_descriptor")) (hm : MtR X id r) (hr : MethD X.K kd r g) (hT : T = "str" ∨ T = "list" ∨ T = "tuple" ∨ T = "dict") (ho : XE Ex X .b o fo) (ha : XB Ex X (e :: es) fs)
    (hbase : attributeBase o name X.env (eval o X.env) = eval o X.env := by exact rfl)
    (hfew : ((backTo cpos (starEach (e :: es) X.env)).all (fun x => !x.1) && (backToKw cpos (keywordEach [] X.env)).all (fun x => x.1.isSome) && decide ((e :: es).length + ([] : List Keyword).length + (if ([] : List Keyword).isEmpty then 0 else 1) < 30)) = true := by rfl)
    (hline : (apos.endLine == cpos.line) = true := by exact rfl) (hs : starEach (e :: es) X.env = (false, eval e X.env) :: starEach es X.env := by rfl) (hplain : (backTo cpos (starEach es X.env)).any (·.1) = false := by rfl) :
    XE Ex X kd (.Call (.Attribute o name apos) (e :: es) [] cpos) (dMeth T g fo fs) := by
  obtain ⟨to, hto, qo⟩ := ho
  obtain ⟨t, ht, q⟩ := ha
  refine ⟨_, pe_bw pa slot hty hm hto ht hbase hfew hline hs hplain, fun W A σ H env P Q k p => ?_⟩
  refine qo W A σ H env P _ k ((PostG.bnd k p).mono ?_)
  rintro dx _ H1 _ _ ⟨P1, e1, p1, k1, post⟩ x rx
  by_cases hd : tyD dx = T
  · rw [if_pos hd] at post
    refine ⟨ty_w' hT hd rx, ?_⟩
    refine q W A σ H1 env P1 _ k1 ((PostG.bnd k1 post).mono ?_)
    rintro ds _ H2 _ _ ⟨P2, e2, p2, k2, post2⟩ vs rs
    obtain ⟨d, hd, post3⟩ := post_orNo post2
    refine hr W A σ H2 env P2 x vs dx ds d Q k2 (RepB.ext k1 e2 rx) rs hd fun v H3 s hv => ?_
    exact post_ret post3 s p2 (e2.trans (HExt.of s)) (e1.trans (e2.trans (HExt.of s))) v (rel_back k.pen (e1.trans e2) p2 hv)
  · rw [if_neg hd] at post; exact post.elim
theorem x_meth0 (pa : PlainAttrs T) (slot : Slot T name id) (hty : typeOf (.builtin id) = pure (.type "method_descriptor")) (hm : MtR X id r) (hr : MethD X.K kd r g) (hT : T = "str" ∨ T = "list" ∨ T = "tuple" ∨ T = "dict") (ho : XE Ex X .b o fo)
    (hbase : attributeBase o name X.env (eval o X.env) = eval o X.env := by rfl) (hline : (apos.endLine == cpos.line) = true := by rfl) : XE Ex X kd (.Call (.Attribute o name apos) [] [] cpos) (dMeth T g fo aNil) := by
  obtain ⟨to, hto, qo⟩ := ho
  refine ⟨_, pe_bw0 pa slot hty hm hto hbase hline, fun W A σ H env P Q k p => ?_⟩
  refine qo W A σ H env P _ k ((PostG.bnd k p).mono ?_)
  rintro dx _ H1 _ _ ⟨P1, e1, p1, k1, post⟩ x rx
  by_cases hd : tyD dx = T
  · rw [if_pos hd] at post
    refine ⟨ty_w' hT hd rx, ?_⟩
    obtain ⟨d, hd, post3⟩ := post_orNo (show PostG Ex W.pa H1 (orNo (g dx []) P1) _ from post)
    refine hr W A σ H1 env P1 x [] dx [] d Q k1 rx rfl hd fun v H3 s hv => ?_
    exact post_ret post3 s p1 (e1.trans (HExt.of s)) v (rel_back k.pen e1 p1 hv)
  · rw [if_neg hd] at post; exact post.elim
end

/-! ### the methods' answers -/
def strsOf : List D → Option (List Str)
  | [] => some []
  | .str z :: r => (strsOf r).map (z :: ·)
  | _ => none
def mCount : D → List D → Option D
  | .str a, [.str b] => some (.int (Txt.count a b))
  | _, _ => none
def mFind : D → List D → Option D
  | .str a, [.str b] => some (.int (Txt.find a b))
  | _, _ => none
def mStarts : D → List D → Option D
  | .str a, [.str b] => some (.bool (Txt.startswith a b))
  | _, _ => none
def mUpper : D → List D → Option D
  | .str a, [] => if a.length ≤ 5592405 then some (.str (Txt.upper a)) else none
  | _, _ => none
def mJoin : D → List D → Option D
  | .str a, [.list ds] => (strsOf ds).bind fun ys => if (ys.map (·.length)).sum + ys.length * a.length ≤ 16777216 then some (.str (Txt.join a ys)) else none
  | .str a, [.tuple ds] => (strsOf ds).bind fun ys => if (ys.map (·.length)).sum + ys.length * a.length ≤ 16777216 then some (.str (Txt.join a ys)) else none
  | _, _ => none
def mCountS : D → List D → Option D
  | .list xs, [d] => if PyData.plainAll xs = true ∧ d.plain = true ∧ d.depth ≤ 60 then some (.int ((xs.countP fun y => PyData.eqv y d : Nat) : Int)) else none
  | .tuple xs, [d] => if PyData.plainAll xs = true ∧ d.plain = true ∧ d.depth ≤ 60 then some (.int ((xs.countP fun y => PyData.eqv y d : Nat) : Int)) else none
  | _, _ => none
section
variable {X : Cx} {K : PySem.W.Frag}
theorem reps_strs {A : AS} {H : Hp} : ∀ {xs : List D} {vs : List V} {ys : List Str}, Reps K A H xs vs → strsOf xs = some ys → vs = ys.map V.str
  | [], vs, ys, h, e => by cases e; exact h
  | x :: xs, vs, ys, ⟨v, r, e1, h, t⟩, e => by
    cases x with
    | str z =>
      change (strsOf xs).map (z :: ·) = some ys at e
      cases hb : strsOf xs with
      | none => rw [hb] at e; cases e
      | some cs =>
        rw [hb] at e
        cases e
        rw [e1, List.map_cons, ← reps_strs t hb, show v = V.str z from h]
    | _ => cases e
theorem md_str1 {r : V → List V → Hp → VK → Prop} {f : Str → Str → D} {g : D → List D → Option D} {fv : Str → Str → V} (hr : ∀ a b H Q, Q (fv a b) H → r (.str a) [.str b] H Q) (hf : ∀ A H a b, Rep K A H (f a b) (fv a b))
    (hg : ∀ dx ds d, g dx ds = some d → ∃ a b, dx = .str a ∧ ds = [.str b] ∧ d = f a b) : MethD K .v r g := by
  intro W A σ H env P x vs dx ds d Q k rx rs h q
  obtain ⟨a, b, rfl, rfl, rfl⟩ := hg dx ds d h
  cases (show x = .str a from rx)
  obtain ⟨v, rfl, rv⟩ := one_arg rs
  cases (show v = .str b from rv)
  exact hr a b H Q (q _ H (Same.refl H) (hf A H a b))
theorem md_count : MethD K .v (fun x xs H Q => ∃ a b, x = .str a ∧ xs = [.str b] ∧ Q (.int (Txt.count a b)) H) mCount := md_str1 (f := fun a b => .int (Txt.count a b)) (fv := fun a b => .int (Txt.count a b)) (fun a b H Q q => ⟨a, b, rfl, rfl, q⟩) (fun _ _ _ _ => rfl) fun dx ds d h => by
  cases dx with
  | str a => match ds, h with
    | [.str b], h => cases h; exact ⟨a, b, rfl, rfl, rfl⟩
  | _ => cases h
theorem md_find : MethD K .v (fun x xs H Q => ∃ a b, x = .str a ∧ xs = [.str b] ∧ Q (.int (Txt.find a b)) H) mFind := md_str1 (f := fun a b => .int (Txt.find a b)) (fv := fun a b => .int (Txt.find a b)) (fun a b H Q q => ⟨a, b, rfl, rfl, q⟩) (fun _ _ _ _ => rfl) fun dx ds d h => by
  cases dx with
  | str a => match ds, h with
    | [.str b], h => cases h; exact ⟨a, b, rfl, rfl, rfl⟩
  | _ => cases h
theorem md_upper : MethD K .v (fun x xs H Q => ∃ a, x = .str a ∧ xs = [] ∧ a.length ≤ 5592405 ∧ Q (.str (Txt.upper a)) H) mUpper := by
  intro W A σ H env P x vs dx ds d Q k rx rs h q
  cases dx with
  | str a =>
    match ds, rs, h with
    | [], rs, h =>
      change (if a.length ≤ 5592405 then some (PyData.str (Txt.upper a)) else none) = some d at h
      by_cases hl : a.length ≤ 5592405
      · rw [if_pos hl] at h
        cases h
        exact ⟨a, rx, rs, hl, q _ H (Same.refl H) rfl⟩
      · rw [if_neg hl] at h; cases h
    | _ :: _, _, h => cases h
  | _ => cases h
theorem md_join : MethD X.K .v (fun x xs H Q => ∃ a p, ∃ ys : List Str, x = .str a ∧ xs = [.ref p] ∧ (SqL X.K H p (ys.map V.str) ∨ SqT X.K H p (ys.map V.str)) ∧ (ys.map (·.length)).sum + ys.length * a.length ≤ 16777216 ∧ Q (.str (Txt.join a ys)) H) mJoin := by
  intro W A σ H env P x vs dx ds d Q k rx rs h q
  have fin : ∀ (a : Str) (xs : List D), ((strsOf xs).bind fun ys => if (ys.map (·.length)).sum + ys.length * a.length ≤ 16777216 then some (PyData.str (Txt.join a ys)) else none) = some d → ∃ ys, strsOf xs = some ys ∧ (ys.map (·.length)).sum + ys.length * a.length ≤ 16777216 ∧ d = .str (Txt.join a ys) := fun a xs h => by
    cases hs : strsOf xs with
    | none => (rw [hs] at h; cases h)
    | some ys =>
      rw [hs] at h
      change (if (ys.map (·.length)).sum + ys.length * a.length ≤ 16777216 then some (PyData.str (Txt.join a ys)) else none) = some d at h
      by_cases hl : (ys.map (·.length)).sum + ys.length * a.length ≤ 16777216
      · rw [if_pos hl] at h; cases h; exact ⟨ys, rfl, hl, rfl⟩
      · rw [if_neg hl] at h; cases h
  cases dx with
  | str a =>
    match ds, rs, h with
    | [d0], rs, h =>
      obtain ⟨v, rfl, rv⟩ := one_arg rs
      cases d0 with
      | list xs =>
        obtain ⟨ys, h1, h2, rfl⟩ := fin a xs h
        obtain ⟨p, vs, rfl, l, r⟩ := rv
        rw [reps_strs r h1] at l
        exact ⟨a, p, ys, rx, rfl, .inl l.sq, h2, q _ H (Same.refl H) rfl⟩
      | tuple xs =>
        obtain ⟨ys, h1, h2, rfl⟩ := fin a xs h
        obtain ⟨p, vs, rfl, l, r⟩ := rv
        rw [reps_strs r h1] at l
        exact ⟨a, p, ys, rx, rfl, .inr l.sq, h2, q _ H (Same.refl H) rfl⟩
      | _ => cases h
    | [], _, h => cases h
    | _ :: _ :: _, _, h => simp [mJoin] at h
  | _ => cases h
end
end Vl
end
section
set_option autoImplicit false
set_option maxRecDepth 100000
/-! V14: dicts: displays, get, item, in; written dicts of the module. -/
namespace Vl
open PySem L2

def keyOf : D → Option Key
  | .int i => some (.inl i)
  | .str s => some (.inr s)
  | _ => none
theorem keyOf_keyD (q : Key) : keyOf (keyD q) = some q := by cases q <;> rfl
theorem keyD_of {d : D} {q : Key} (h : keyOf d = some q) : d = keyD q := by
  cases d <;> first | (cases h; rfl) | cases h
def dGetK (kvs : List (D × D)) (q : Key) : Option D := (kvs.find? fun p => decide (keyOf p.1 = some q)).map (·.2)
def dPutK (kvs : List (D × D)) (q : Key) (d : D) : List (D × D) :=
  if (kvs.any fun p => decide (keyOf p.1 = some q)) = true then kvs.map (fun p => if keyOf p.1 = some q then (p.1, d) else p) else kvs ++ [(keyD q, d)]
def dMerge (kvs : List (D × D)) (more : List (Key × D)) : List (D × D) := more.foldl (fun acc p => dPutK acc p.1 p.2) kvs
section
variable {K : PySem.W.Frag} {A : AS} {H : Hp}
theorem keyOf_iff {k q : Key} : (keyOf (keyD k) = some q) ↔ k = q := by rw [keyOf_keyD]; exact ⟨fun h => Option.some.inj h, fun h => by rw [h]⟩
theorem RepD.val {q : Key} : ∀ {kvs : List (D × D)} {kv : List (Key × V)}, RepD K A H kvs kv → (∀ d, dGetK kvs q = some d → ∃ v, valV kv q = some v ∧ Rep K A H d v) ∧ (dGetK kvs q = none → valV kv q = none)
  | [], _, h => by
    cases (show _ = [] from h)
    exact ⟨fun d z => (nomatch z), fun _ => rfl⟩
  | (k, d) :: r, _, ⟨q', v, t, e, ek, h1, h2⟩ => by
    subst e
    subst ek
    have ih := RepD.val (q := q) h2
    by_cases hq : q' = q
    · have e1 : dGetK ((keyD q', d) :: r) q = some d := by
        unfold dGetK
        rw [List.find?_cons_of_pos (by simpa using keyOf_iff.mpr hq)]
        rfl
      rw [e1, valV_pos (p := (q', v)) hq]
      exact ⟨fun d' z => by cases z; exact ⟨v, rfl, h1⟩, fun z => nomatch z⟩
    · have e1 : dGetK ((keyD q', d) :: r) q = dGetK r q := by
        unfold dGetK
        rw [List.find?_cons_of_neg (by simpa using fun z => hq (keyOf_iff.mp z))]
      rw [e1, valV_neg (p := (q', v)) hq]
      exact ih
theorem RepD.any {q : Key} : ∀ {kvs : List (D × D)} {kv : List (Key × V)}, RepD K A H kvs kv → (kvs.any fun p => decide (keyOf p.1 = some q)) = kv.any fun p => decide (p.1 = q)
  | [], _, h => by cases (show _ = [] from h); rfl
  | (k, d) :: r, _, ⟨q', v, t, e, ek, h1, h2⟩ => by
    subst e
    subst ek
    rw [List.any_cons, List.any_cons, RepD.any h2]
    congr 1
    exact decide_eq_decide.mpr keyOf_iff
theorem RepD.repl {q : Key} {d : D} {v : V} (hd : Rep K A H d v) : ∀ {kvs : List (D × D)} {kv : List (Key × V)}, RepD K A H kvs kv →
    RepD K A H (kvs.map fun p => if keyOf p.1 = some q then (p.1, d) else p) (kv.map fun p => if p.1 = q then (p.1, v) else p)
  | [], _, h => by cases (show _ = [] from h); exact rfl
  | (k, d0) :: r, _, ⟨q', v0, t, e, ek, h1, h2⟩ => by
    subst e
    subst ek
    rw [List.map_cons]; rw [List.map_cons]
    by_cases hq : q' = q
    · rw [if_pos (keyOf_iff.mpr hq), if_pos (by simpa using hq)]
      exact ⟨q', v, _, rfl, rfl, hd, RepD.repl hd h2⟩
    · rw [if_neg (fun z => hq (keyOf_iff.mp z)), if_neg (by simpa using hq)]
      exact ⟨q', v0, _, rfl, rfl, h1, RepD.repl hd h2⟩
theorem RepD.snoc {q : Key} {d : D} {v : V} (hd : Rep K A H d v) : ∀ {kvs : List (D × D)} {kv : List (Key × V)}, RepD K A H kvs kv → RepD K A H (kvs ++ [(keyD q, d)]) (kv ++ [(q, v)])
  | [], _, h => by cases (show _ = [] from h); exact ⟨q, v, [], rfl, rfl, hd, rfl⟩
  | (k, d0) :: r, _, ⟨q', v0, t, e, ek, h1, h2⟩ => by
    subst e
    exact ⟨q', v0, _, rfl, ek, h1, RepD.snoc hd h2⟩
theorem RepD.put {q : Key} {d : D} {v : V} (hd : Rep K A H d v) {kvs : List (D × D)} {kv : List (Key × V)} (h : RepD K A H kvs kv) : RepD K A H (dPutK kvs q d) (putK kv q v) := by
  unfold dPutK putK
  rw [h.any]
  by_cases e : (kv.any fun p => decide (p.1 = q)) = true
  · rw [if_pos e, if_pos e]; exact RepD.repl hd h
  · rw [if_neg e, if_neg e]; exact RepD.snoc hd h
/-- pairs of a key and a value -/
def RepKs (K : PySem.W.Frag) (A : AS) (H : Hp) : List (Key × D) → List (Key × V) → Prop
  | [], kv => kv = []
  | (k, d) :: ds, kv => ∃ v r, kv = (k, v) :: r ∧ Rep K A H d v ∧ RepKs K A H ds r
theorem RepD.merge : ∀ {more : List (Key × D)} {ms : List (Key × V)} {kvs : List (D × D)} {kv : List (Key × V)}, RepKs K A H more ms → RepD K A H kvs kv → RepD K A H (dMerge kvs more) (mergeK kv ms)
  | [], _, _, _, h, q => by cases (show _ = [] from h); exact q
  | (k, d) :: r, _, _, _, ⟨v, t, e, h1, h2⟩, q => by
    subst e
    exact (show RepD K A H (dMerge (dPutK _ k d) r) (mergeK (putK _ k v) t) from RepD.merge h2 (RepD.put h1 q))
end

/-! ### displays -/
def RepPs (K : PySem.W.Frag) (A : AS) (H : Hp) : List (D × D) → List (V × V) → Prop
  | [], ps => ps = []
  | (k, d) :: ds, ps => ∃ x v r, ps = (x, v) :: r ∧ Rep K A H k x ∧ Rep K A H d v ∧ RepPs K A H ds r
def keysOf : List (D × D) → Option (List (Key × D))
  | [] => some []
  | (k, d) :: r => (keyOf k).bind fun q => (keysOf r).map fun t => (q, d) :: t
theorem rep_ps_keys {K : PySem.W.Frag} {A : AS} {H : Hp} : ∀ {ps : List (D × D)} {qs : List (V × V)} {ks : List (Key × D)}, RepPs K A H ps qs → keysOf ps = some ks → ∃ kv, qs = kv.map (fun p => (kV p.1, p.2)) ∧ RepKs K A H ks kv ∧ kv.length = ks.length
  | [], _, ks, h, e => by cases (show _ = [] from h); cases e; exact ⟨[], rfl, rfl, rfl⟩
  | (k, d) :: r, _, ks, ⟨x, v, t, ep, h1, h2, h3⟩, e => by
    subst ep
    obtain ⟨q, hq, e2⟩ := Option.bind_eq_some_iff.mp (show ((keyOf k).bind fun q => (keysOf r).map fun t => (q, d) :: t) = some ks from e)
    obtain ⟨t', ht, rfl⟩ := Option.map_eq_some_iff.mp e2
    obtain ⟨kv, rfl, g, gl⟩ := rep_ps_keys h3 ht
    have hx : x = kV q := by
      rw [keyD_of hq] at h1
      cases q <;> exact h1
    exact ⟨(q, v) :: kv, by rw [hx]; rfl, ⟨v, kv, rfl, h2, g⟩, by rw [List.length_cons, List.length_cons, gl]⟩
def pNil : Env → M (List (D × D)) := fun _ => ret []
def pCons (fk fv : Env → M D) (g : Env → M (List (D × D))) : Env → M (List (D × D)) := fun env => bnd (fk env) fun k => bnd (fv env) fun d => bnd (g env) fun ps => ret ((k, d) :: ps)
def dDisp (g : Env → M (List (D × D))) : Env → M D := fun env => bnd (g env) fun ps => match keysOf ps with
  | some ks => if ks.length ≤ 15 then ret (.dict (dMerge [] ks)) else no
  | none => no
def XP (Ex : Str → Hp → Prop) (X : Cx) (pos : Pos) (keys : List (Option Expr)) (values : List Expr) (g : Env → M (List (D × D))) : Prop := ∃ trs, PPs X pos keys values trs ∧
  ∀ W A σ H env P (Q : List (V × V) → Hp → Prop), EOk X.K W A σ H env P → PostG Ex W.pa H (g env P) (fun ps H' => ∀ qs, RepPs X.K A H' ps qs → Q qs H') → tPairs trs σ H Q
section
variable {Ex : Str → Hp → Prop} {X : Cx} {pos : Pos} {k v : Expr} {ks : List (Option Expr)} {vs : List Expr} {fk fv : Env → M D} {g : Env → M (List (D × D))}
theorem xp_nil : XP Ex X pos [] [] pNil := ⟨_, pps_nil, fun W A σ H env P Q k p => post_here p k.pen [] rfl⟩
theorem xp_cons (hk : XE Ex X .v k fk) (hv : XE Ex X .v v fv) (hg : XP Ex X pos ks vs g) : XP Ex X pos (some k :: ks) (v :: vs) (pCons fk fv g) := by
  obtain ⟨tk, htk, qk⟩ := hk
  obtain ⟨tv, htv, qv⟩ := hv
  obtain ⟨tr, htr, qr⟩ := hg
  refine ⟨_, pps_cons htk htv htr, fun W A σ H env P Q k p => ?_⟩
  refine qk W A σ H env P _ k ((PostG.bnd k p).mono ?_)
  rintro dk _ H1 _ _ ⟨P1, e1, p1, k1, post⟩ x rx
  refine qv W A σ H1 env P1 _ k1 ((PostG.bnd k1 post).mono ?_)
  rintro dv _ H2 _ _ ⟨P2, e2, p2, k2, post2⟩ y ry
  refine qr W A σ H2 env P2 _ k2 ((PostG.bnd k2 post2).mono ?_)
  rintro ps _ H3 _ _ ⟨P3, e3, p3, k3, post3⟩ qs rq
  exact post_here post3 p3 e3 (e2.trans e3) (e1.trans (e2.trans e3)) ((x, y) :: qs) ⟨x, y, qs, rfl, k2.rep e3 (k1.rep e2 rx), k2.rep e3 ry, rq⟩
theorem x_dict0 : XE Ex X .v (.Dict [] [] pos) (dC (.dict [])) := ⟨_, pe_dnewK, fun W A σ H env P Q k p q hq => by
  have s := same_upd (o := .dK []) hq
  exact post_ret p s k.pen (.ref q) ⟨q, [], rfl, ⟨upd_same, k.new hq⟩, rfl⟩⟩
theorem x_disp (hg : XP Ex X pos ks vs g) (hall : ks.all (·.isSome) = true := by rfl) (hl : ks.length = vs.length := by rfl) (h0 : ks ≠ [] := by simp) (h15 : ks.length ≤ 15 := by decide) : XE Ex X .v (.Dict ks vs pos) (dDisp g) := by
  obtain ⟨tr, htr, qr⟩ := hg
  refine ⟨_, pe_disp htr hall hl h0 h15, fun W A σ H env P Q k p a ha => ?_⟩
  have s := same_upd (o := .dK []) ha
  have k' := k.avoid (o := .dK []) ha nt_dK
  have hA := k.new ha
  obtain ⟨_, np⟩ := k.none0 ha
  unfold dDisp at p
  have pb := PostG.bnd k p
  refine qr W (ad A a) σ _ env P _ k' ?_
  cases hm : g env P with
  | no => rw [hm] at pb; exact pb
  | ex c P1 =>
    rw [hm] at pb
    exact fun H2 e2 p2 => pb H2 ((HExt.of s).trans e2) p2
  | ok ps P1 =>
    rw [hm] at pb
    intro H2 e2 p2 qs rq
    have h2 : H2 a = some (.dK []) := e2.at upd_same (fun ⟨c, z⟩ => (np _ _ z).1 rfl) nt_dK
    have st : ∀ o, Stay (ad A a) A H2 (upd H2 a o) := fun o b u h _ n => ⟨(upd_ne (fun z => n (.inr z))).trans h, fun z => n (.inl z)⟩
    have e3 : ∀ o, HExt W.pa H (upd H2 a o) := fun o b u h n nt => by
      have hb : b ≠ a := fun z => by subst z; rw [ha] at h; cases h
      rw [upd_ne hb]
      exact e2 b u (s b u h) n nt
    have p3 : ∀ o, PenOk W.pa (upd H2 a o) P1 := fun o => ⟨fun p c z => by
      obtain ⟨q1, q2, q3⟩ := p2.1 p c z
      exact ⟨q1, by rw [upd_ne (np p c z).1.symm]; exact q2, by rw [upd_ne (np p c z).2.symm]; exact q3⟩, tabs_upd p2.2.1 (by rw [h2]; trivial), p2.2.2⟩
    cases hk : keysOf ps with
    | none =>
      obtain ⟨P3, f1, f2, f3, f4⟩ := pb _ (e3 (.dK [])) (p3 _)
      rw [hk] at f4
      exact f4.elim
    | some kds =>
      obtain ⟨kv, rfl, rk, hlen⟩ := rep_ps_keys rq hk
      obtain ⟨P3, f1, f2, f3, f4⟩ := pb _ (e3 (.dK (mergeK [] kv))) (p3 _)
      rw [hk] at f4
      by_cases h15' : kds.length ≤ 15
      · simp only [if_pos h15'] at f4
        refine ⟨h2, kv, rfl, by omega, ?_⟩
        refine post_here f4 f2 f1 (.ref a) ⟨a, _, rfl, ⟨upd_same, hA⟩, ?_⟩
        exact RepD.mono (st _) _ _ (RepD.merge rk (show RepD X.K (ad A a) H2 [] [] from rfl))
      · simp only [if_neg h15'] at f4
        exact f4.elim
end

/-! ### get, item, in -/
def mGet : D → List D → Option D
  | .dict kvs, [k] => (keyOf k).map fun q => (dGetK kvs q).getD .none
  | .dict kvs, [k, d] => (keyOf k).bind fun q => if plainD d then some ((dGetK kvs q).getD d) else none
  | _, _ => none
def rGetD : V → List V → Hp → VK → Prop := fun x xs H Q => ∃ a y o, x = .ref a ∧ DGet H a y o ∧ ((xs = [y] ∧ Q (o.getD .non) H) ∨ ∃ d, xs = [y, d] ∧ Q (o.getD d) H)
def dItem : D → D → Option D
  | .dict kvs, k => (keyOf k).bind fun q => dGetK kvs q
  | _, _ => none
section
variable {X : Cx} {K : PySem.W.Frag}
theorem mr_get (hu : X.A.units + 1 < cLine) : MtR X "dict.get" rGetD := by
  intro pins s σ H x xs v us Q I rx r h
  obtain ⟨a, y, o, rfl, g, h⟩ := h
  cases (show v = .ref a from rx)
  rcases h with ⟨rfl, q⟩ | ⟨d, rfl, q⟩
  · obtain ⟨u, rfl, ru⟩ := vals1 r
    exact d_get1 hu I g ru fun w' s3 I3 rw' => ⟨_, H, I3, rw', q⟩
  · cases r with
    | cons r1 r2 =>
      obtain ⟨u, rfl, ru⟩ := vals1 r2
      exact d_get2 hu I g r1 ru fun w' s3 I3 rw' => ⟨_, H, I3, rw', q⟩
theorem key_V {pa : PL} {A : AS} {H : Hp} {k : D} {q : Key} {v : V} (h : keyOf k = some q) (r : RepB K pa A H k v) : v = kV q := by
  rw [keyD_of h] at r
  cases q <;> exact r
theorem md_get : MethD K .v rGetD mGet := by
  intro W A σ H env P x vs dx ds d Q k rx rs h q
  cases dx with
  | dict kvs =>
    obtain ⟨a, kv, rfl, l, rd⟩ := rx
    match ds, rs, h with
    | [], _, h => cases h
    | [dk], rs, h =>
      obtain ⟨v, rfl, rv⟩ := one_arg rs
      obtain ⟨qk, hk, rfl⟩ := Option.map_eq_some_iff.mp (show ((keyOf dk).map fun q => (dGetK kvs q).getD .none) = some d from h)
      cases key_V hk rv
      obtain ⟨g1, g2⟩ := RepD.val (q := qk) rd
      refine ⟨a, _, _, rfl, DGet.k l.1, .inl ⟨rfl, ?_⟩⟩
      cases hg : dGetK kvs qk with
      | none => rw [g2 hg]; rw [hg] at q; exact q _ H (Same.refl H) rfl
      | some d0 => obtain ⟨v0, e0, r0⟩ := g1 d0 hg; rw [e0]; rw [hg] at q; exact q _ H (Same.refl H) r0
    | [dk, dd], rs, h =>
      obtain ⟨v, t, rfl, rv, rs⟩ := rs
      obtain ⟨v2, rfl, rv2⟩ := one_arg rs
      obtain ⟨qk, hk, h2⟩ := Option.bind_eq_some_iff.mp (show ((keyOf dk).bind fun q => if plainD dd then some ((dGetK kvs q).getD dd) else none) = some d from h)
      by_cases hp : plainD dd = true
      · rw [if_pos hp] at h2
        cases h2
        cases key_V hk rv
        obtain ⟨g1, g2⟩ := RepD.val (q := qk) rd
        refine ⟨a, _, _, rfl, DGet.k l.1, .inr ⟨v2, rfl, ?_⟩⟩
        cases hg : dGetK kvs qk with
        | none => rw [g2 hg]; rw [hg] at q; exact q _ H (Same.refl H) (plainD_rep hp rv2)
        | some d0 => obtain ⟨v0, e0, r0⟩ := g1 d0 hg; rw [e0]; rw [hg] at q; exact q _ H (Same.refl H) r0
      · rw [if_neg hp] at h2; cases h2
    | _ :: _ :: _ :: _, _, h => simp [mGet] at h
  | _ => cases h
end
end Vl
end
section
set_option autoImplicit false
set_option maxRecDepth 100000
/-! V15: items of dicts, in dicts; written dicts of the module by their names. -/
namespace Vl
open PySem L2 PySem.W PySem.Calls PyProof.Rows

def dIxA : D → D → Option D
  | .dict kvs, k => dItem (.dict kvs) k
  | x, k => dIx x k
def rIxDK : R2 := fun x y H Q => ∃ a v, x = .ref a ∧ DGet H a y (some v) ∧ Q v H
def rIxA (K : PySem.W.Frag) : R2 := fun x y H Q => rIx K x y H Q ∨ rIxDK x y H Q
def dInA : D → D → Option D
  | k, .dict kvs => (keyOf k).map fun q => .bool (dGetK kvs q).isSome
  | x, y => dIn x y
def dNotInA (x y : D) : Option D := match dInA x y with
  | some (.bool c) => some (.bool (!c))
  | _ => none
def rInDK : R2 := fun x y H Q => ∃ a o, y = .ref a ∧ DGet H a x o ∧ Q (.bl o.isSome) H
def rNotInDK : R2 := fun x y H Q => ∃ a o, y = .ref a ∧ DGet H a x o ∧ Q (.bl (!o.isSome)) H
section
variable {X : Cx} {K : PySem.W.Frag}
theorem ix_dk (hu : X.A.units + 1 < cLine) : IxR X rIxDK := by
  intro value slice pins s σ H x y; intro v u Q I rx ry h hs
  obtain ⟨a, v0, rfl, g, q⟩ := h
  obtain rfl : v = Value.ref a := (rx)
  exact tail_any (dict_typeIs I g) slot_dict_getitem.lookup (d_getItem hu I g ry fun w' s' I' rw' => ⟨v0, H, I', rw', q⟩) hs
theorem ix_any (hu : X.A.units + 1 < cLine) : IxR X (rIxA X.K) := fun value slice pins s σ H x y v u Q I rx ry h hs => h.elim (fun h => ix_seq value slice pins s σ H x y v u Q I rx ry h hs) fun h => ix_dk hu value slice pins s σ H x y v u Q I rx ry h hs
theorem od_ixA : OpD K .v (rIxA K) dIxA := by
  intro W A σ H env P x y dx dy d Q k rx ry hg q
  cases dx with
  | dict kvs =>
    obtain ⟨a, kv, rfl, l, rd⟩ := rx
    obtain ⟨qk, hk, h2⟩ := Option.bind_eq_some_iff.mp (show ((keyOf dy).bind fun q => dGetK kvs q) = some d from hg)
    cases key_V hk ry
    obtain ⟨v0, e0, r0⟩ := (RepD.val (q := qk) rd).1 d h2
    refine .inr ⟨a, v0, rfl, ?_, q _ H (Same.refl H) r0⟩
    rw [← e0]
    exact DGet.k l.1
  | none | bool _ | int _ | str _ | list _ | tuple _ => exact .inl (od_ix W A σ H env P x y _ dy d Q k rx ry hg q)
theorem op_inDK (hu : X.A.units + 1 < cLine) : OpR X (compareOp .In) rInDK := by
  intro pins s σ H x y; intro v u Q I rx ry h
  obtain ⟨a, o, rfl, g, q⟩ := h
  obtain rfl : u = Value.ref a := (ry)
  exact d_in hu I g rx fun s' I' => ⟨.bl o.isSome, H, I', rfl, q⟩
theorem op_notinDK (hu : X.A.units + 1 < cLine) : OpR X (compareOp .NotIn) rNotInDK := by
  intro pins s σ H x y; intro v u Q I rx ry h
  obtain ⟨a, o, rfl, g, q⟩ := h
  obtain rfl : u = Value.ref a := (ry)
  exact d_notIn hu I g rx fun s' I' => ⟨.bl (!o.isSome), H, I', rfl, q⟩
theorem or_inA (hu : X.A.units + 65 < cLine) : OpR X (compareOp .In) (fun x y H Q => rInA X.K x y H Q ∨ rInDK x y H Q) := (or_in hu).or (op_inDK (by omega))
theorem or_notinA (hu : X.A.units + 65 < cLine) : OpR X (compareOp .NotIn) (fun x y H Q => rNotInA X.K x y H Q ∨ rNotInDK x y H Q) := (or_notin hu).or (op_notinDK (by omega))
theorem in_dict {W : Wd} {A : AS} {σ : L2.St} {H : Hp} {env : Env} {P : Pen} {x y : V} {dx d : D} {kvs : List (D × D)} (rx : RepB K W.pa A H dx x) (ry : RepB K W.pa A H (.dict kvs) y) (hg : dInA dx (.dict kvs) = some d) :
    ∃ a o, y = .ref a ∧ DGet H a x o ∧ d = .bool o.isSome := by
  obtain ⟨a, kv, rfl, l, rd⟩ := ry
  obtain ⟨qk, hk, rfl⟩ := Option.map_eq_some_iff.mp (show ((keyOf dx).map fun q => PyData.bool (dGetK kvs q).isSome) = some d from hg)
  cases key_V hk rx
  obtain ⟨g1, g2⟩ := RepD.val (q := qk) rd
  refine ⟨a, _, rfl, DGet.k l.1, ?_⟩
  cases hg : dGetK kvs qk with
  | none => rw [g2 hg]; rfl
  | some d0 => obtain ⟨v0, e0, r0⟩ := g1 d0 hg; rw [e0]; rfl
theorem od_inA : OpD K .v (fun x y H Q => rInA K x y H Q ∨ rInDK x y H Q) dInA := by
  intro W A σ H env P x y dx dy d Q k rx ry hg q
  cases dy with
  | dict kvs =>
    obtain ⟨a, o, rfl, g, rfl⟩ := in_dict (W := W) (σ := σ) (env := env) (P := P) rx ry hg
    exact .inr ⟨a, o, rfl, g, q _ H (Same.refl H) rfl⟩
  | none | bool _ | int _ | str _ | list _ | tuple _ => exact .inl (od_in W A σ H env P x y dx _ d Q k rx ry hg q)
theorem od_notinA : OpD K .v (fun x y H Q => rNotInA K x y H Q ∨ rNotInDK x y H Q) dNotInA := by
  intro W A σ H env P x y dx dy d Q k rx ry hg q
  cases dy with
  | dict kvs =>
    unfold dNotInA at hg
    cases hi : dInA dx (.dict kvs) with
    | none => rw [hi] at hg; cases hg
    | some e =>
      obtain ⟨a, o, rfl, g, rfl⟩ := in_dict (W := W) (σ := σ) (env := env) (P := P) rx ry hi
      rw [hi] at hg
      cases hg
      exact .inr ⟨a, o, rfl, g, q _ H (Same.refl H) rfl⟩
  | none | bool _ | int _ | str _ | list _ | tuple _ =>
    refine .inl (od_notin W A σ H env P x y dx _ d Q k rx ry ?_ q)
    unfold dNotInA at hg
    unfold dNotIn notD
    exact hg
end
section
variable {Ex : Str → Hp → Prop} {X : Cx} {pos p : Pos} {a b : Expr} {fa fb : Env → M D}
theorem x_ixA (hu : X.A.units + 1 < cLine) (ha : XE Ex X .b a fa) (hb : XE Ex X .b b fb) (hs : PlainIx b := by exact fun _ _ => rfl) : XE Ex X .v (.Subscript a b pos) (d2 dIxA fa fb) := by
  obtain ⟨ta, ha, qa⟩ := ha
  obtain ⟨tb, hb, qb⟩ := hb
  exact ⟨_, pe_ix (ix_any hu) ha hb hs, sd_op od_ixA qa qb⟩
end

/-! ### written dicts of the module, by their names -/
/-- at d stands a written dict of these texts and values -/
structure TabIs (K : PySem.W.Frag) (w : World) (d : Addr) (tb : List (Str × D)) : Prop where
  is : ∃ es n, KDict K w d es n
  val : ∀ z, ∃ o, PySem.W.nsIn K d z = some o ∧ match tb.lookup z with
    | none => o = none
    | some c => ∃ u v, o = some u ∧ RelV v u ∧ ∀ A H, Rep K A H c v
def EnT (K : PySem.W.Frag) : List DictEntry → List (Str × D) → Prop
  | [], [] => True
  | e :: l, (z, c) :: tb => (∃ t v, e.key = .str z t ∧ RelV v e.val ∧ ∀ A H, Rep K A H c v) ∧ EnT K l tb
  | _, _ => False
theorem EnT.find {K : PySem.W.Frag} {z : Str} : ∀ {l : List DictEntry} {tb : List (Str × D)}, EnT K l tb → match tb.lookup z with
    | none => l.find? (·.key.isStr z) = none
    | some c => ∃ e v, l.find? (·.key.isStr z) = some e ∧ RelV v e.val ∧ ∀ A H, Rep K A H c v
  | [], [], _ => rfl
  | e :: l, (y, c) :: tb, ⟨⟨t, v, hk, r, h⟩, q⟩ => by
    rw [List.lookup_cons]
    by_cases hz : z = y
    · subst hz
      rw [beq_self_eq_true]
      refine ⟨e, v, List.find?_cons_of_pos ?_, r, h⟩
      rw [hk]; simp [Value.isStr]
    · have hb : (z == y) = false := by simpa using hz
      have hn : ¬ e.key.isStr z = true := by rw [hk]; simp [Value.isStr]; exact fun e => hz e.symm
      rw [hb, List.find?_cons_of_neg (p := fun x : DictEntry => x.key.isStr z) hn]
      exact EnT.find (z := z) q
theorem EnT.noRef {K : PySem.W.Frag} : ∀ {l : List DictEntry} {tb : List (Str × D)}, EnT K l tb → l.any (·.refKey) = false
  | [], [], _ => rfl
  | e :: l, (y, c) :: tb, ⟨⟨t, v, hk, r, h⟩, q⟩ => by
    rw [List.any_cons, EnT.noRef q, Bool.or_false]
    unfold DictEntry.refKey
    rw [hk]
theorem TabIs.of {K : PySem.W.Frag} {w : World} {d : Addr} {es : Array DictEntry} {n : Nat} {tb : List (Str × D)} (D : KDict K w d es n) (h : EnT K es.toList tb) : TabIs K w d tb := by
  refine ⟨⟨es, n, D⟩, fun z => ?_⟩
  unfold PySem.W.nsIn
  rw [D.at_]
  have f := EnT.find (z := z) h
  dsimp only
  cases hl : tb.lookup z with
  | none =>
    rw [hl] at f
    simp only at f
    rw [f, EnT.noRef h]
    exact ⟨none, rfl, rfl⟩
  | some c =>
    rw [hl] at f
    obtain ⟨e, v, f1, f2, f3⟩ := f
    rw [f1]
    exact ⟨some e.val, rfl, e.val, v, rfl, f2, f3⟩
def dKIn (tb : List (Str × D)) (f : Env → M D) : Env → M D := fun env => bnd (f env) fun
  | .str z => ret (.bool (tb.lookup z).isSome)
  | _ => no
def dKItem (tb : List (Str × D)) (f : Env → M D) : Env → M D := fun env => bnd (f env) fun
  | .str z => orNo (tb.lookup z)
  | _ => no
def dKGet (tb : List (Str × D)) (f : Env → M D) (g : Env → M D) : Env → M D := fun env => bnd (f env) fun
  | .str z => bnd (g env) fun d => ret ((tb.lookup z).getD d)
  | _ => no
section
variable {Ex : Str → Hp → Prop} {X : Cx} {pos p apos cpos : Pos} {a b : Expr} {fa fb : Env → M D} {N : Str} {d : Addr} {tb : List (Str × D)}
theorem TabIs.some {K : PySem.W.Frag} {w : World} (T : TabIs K w d tb) {z : Str} {c : D} (h : tb.lookup z = some c) : ∃ u v, PySem.W.nsIn K d z = some (some u) ∧ RelV v u ∧ ∀ A H, Rep K A H c v := by
  obtain ⟨o, h1, h2⟩ := T.val z
  rw [h] at h2
  obtain ⟨u, v, rfl, h3, h4⟩ := h2
  exact ⟨u, v, h1, h3, h4⟩
theorem TabIs.isSome {K : PySem.W.Frag} {w : World} (T : TabIs K w d tb) (z : Str) : ∃ r, PySem.W.nsIn K d z = .some r ∧ r.isSome = (tb.lookup z).isSome := by
  obtain ⟨o, h1, h2⟩ := T.val z
  refine ⟨o, h1, ?_⟩
  cases h : tb.lookup z with
  | none => rw [h] at h2; cases h2; rfl
  | some c => rw [h] at h2; obtain ⟨u, v, rfl, _⟩ := h2; rfl
theorem x_kin (T : TabIs X.K X.w d tb) (ha : XE Ex X .b a fa) (hm : X.mg N = .some (.ref d)) (hg : Gl X N := by rfl) (hd : (N == ("__debug__" : Str)) = false := by decide) (hb : behindInMarks .In (.Name N p) = false := by rfl) : XE Ex X .v (.Compare a [.In] [.Name N p] pos) (dKIn tb fa) := by
  obtain ⟨ta, hta, qa⟩ := ha
  obtain ⟨es, n, K⟩ := T.is
  refine ⟨_, pe_cmpR (op_in_kd K) hta (pe_glob (v := .ref d) hg hm rfl hd) hb, fun W A σ H env P Q k p => ?_⟩
  refine qa W A σ H env P _ k ((PostG.bnd k p).mono ?_)
  rintro dx _ H1 _ _ ⟨P1, e1, p1, k1, post⟩ x rx
  cases dx with
  | str z =>
    cases (show x = .str z from rx)
    obtain ⟨r, h1, h2⟩ := T.isSome z
    refine ⟨z, r, rfl, rfl, h1, ?_⟩
    rw [h2]
    exact post_here post p1 e1 _ rfl
  | _ => exact post.elim
theorem x_kix (T : TabIs X.K X.w d tb) (ha : XE Ex X .b a fa) (hm : X.mg N = .some (.ref d)) (hg : Gl X N := by rfl) (hd : (N == ("__debug__" : Str)) = false := by decide) (hs : PlainIx a := by exact fun _ _ => rfl) : XE Ex X .v (.Subscript (.Name N p) a pos) (dKItem tb fa) := by
  obtain ⟨ta, hta, qa⟩ := ha
  obtain ⟨es, n, K⟩ := T.is
  refine ⟨_, pe_ix ix_kdict (pe_glob (v := .ref d) hg hm rfl hd) hta hs, fun W A σ H env P Q k p => ?_⟩
  refine qa W A σ H env P _ k ((PostG.bnd k p).mono ?_)
  rintro dx _ H1 _ _ ⟨P1, e1, p1, k1, post⟩ x rx
  cases dx with
  | str z =>
    cases (show x = .str z from rx)
    cases h : tb.lookup z with
    | none => simp only [h] at post; exact post.elim
    | some c =>
      simp only [h] at post
      obtain ⟨u, v, h1, h2, h3⟩ := T.some h
      exact ⟨d, z, v, rfl, rfl, ⟨es, n, u, K.at_, K.lit, h1, h2⟩, post_here post p1 e1 v (h3 _ _)⟩
  | _ => exact post.elim
/-- what d.get(y, x) of a written dict gives -/
def rKGet (K : PySem.W.Frag) (d : Addr) : V → List V → Hp → VK → Prop := fun x xs H Q => ∃ z r o v, x = .ref d ∧ xs = [.str z, r] ∧ PySem.W.nsIn K d z = some o ∧ (match o with | none => v = r | .some u => RelV v u) ∧ Q v H
theorem mr_kget {es : Array DictEntry} {n : Nat} (K : KDict X.K X.w d es n) : MtR X "dict.get" (rKGet X.K d) := by
  intro pins s σ H x xs v us Q I rx r h
  obtain ⟨z, r0, o, v0, rfl, rfl, h1, h2, q⟩ := h
  cases (show v = .ref d from rx)
  cases r with
  | cons r1 r2 =>
    obtain ⟨u, rfl, ru⟩ := vals1 r2
    obtain ⟨t, rfl⟩ := r1
    have hm := PySem.W.mapOf_K (prog := X.prog) (w := X.w) I.kIn K.at_ K.lit
    refine call_meetsIn PySem.F.slot_dict_get hm.typeIs PySem.F.entry_dict_get (PySem.F.args_dict_get_3 _ _ _) (meets_dict_get_default (strKind X.prog X.w) d (strKind_is X.prog X.w z t) K.low u) ⟨_, hm, ?_⟩
    rw [PySem.W.find_K K.at_ h1]
    refine ⟨v0, H, I.tok _, ?_, q⟩
    cases o with
    | none => cases h2; exact ru
    | some u0 => exact h2
theorem kd_ty {pins : List (Addr × Obj)} {σ : L2.St} {H : Hp} {s : Shared} {es : Array DictEntry} {n : Nat} (K : KDict X.K X.w d es n) (I : L2.Inv X pins σ H s) : s.TypeIs (.ref d) "dict" ∧ ∀ a, Value.ref d = .ref a → ∃ ob, s.heap.get? a = some ob ∧ ob.dict = none :=
  ⟨kd_type K I, fun a z => by cases z; exact ⟨_, I.kIn _ _ K.at_, rfl⟩⟩
theorem pe_kmeth {to : TE} {t : L2.TA} {o e : Expr} {es : List Expr} {id : String} {name : Str} {r : V → List V → Hp → VK → Prop} {es0 : Array DictEntry} {n : Nat} (K : KDict X.K X.w d es0 n) (slot : Slot "dict" name id) (hty : typeOf (.builtin id) = pure (.type "method_descriptor")) (hm : MtR X id r) (ho : PE X o to) (ha : PA X (e :: es) t)
    (hbase : attributeBase o name X.env (eval o X.env) = eval o X.env := by exact rfl)
    (hfew : ((backTo cpos (starEach (e :: es) X.env)).all (fun x => !x.1) && (backToKw cpos (keywordEach [] X.env)).all (fun x => x.1.isSome) && decide ((e :: es).length + ([] : List Keyword).length + (if ([] : List Keyword).isEmpty then 0 else 1) < 30)) = true := by rfl)
    (hline : (apos.endLine == cpos.line) = true := by exact rfl) (hs : starEach (e :: es) X.env = (false, eval e X.env) :: starEach es X.env := by rfl) (hplain : (backTo cpos (starEach es X.env)).any (·.1) = false := by rfl) :
    PE X (.Call (.Attribute o name apos) (e :: es) [] cpos) (fun σ H Q => to σ H fun x H1 => x = .ref d ∧ t σ H1 fun xs H2 => r x xs H2 Q) := by
  refine ⟨fun pins s σ H Q I h => wpAny_Call_method_late hbase hfew hline rfl (thn (ho.run pins s σ H _ I h) fun v s1 ⟨x, H1, I1, r1, ex, q1⟩ => ?_)⟩
  subst ex
  obtain rfl : v = Value.ref d := r1
  have hh := kd_ty K I1
  refine ⟨"dict", id, PySem.F.plainAttrs_dict, slot, hty, hh.1, hh.2, ?_⟩
  have hA := (ha.run cpos pins s1 σ H1 _ I1 q1)
  rw [hs] at hA ⊢
  refine Calls.callWith_builtin (show (false || (backTo cpos (starEach es X.env)).any (·.1)) = false by rw [hplain]; rfl) (Calls.evalArgs_plain (thn hA fun us s2 ⟨vs, H2, I2, r2, q2⟩ => ?_))
  exact hm pins s2 σ H2 (.ref d) vs (.ref d) us Q I2 rfl r2 q2
theorem x_kget (T : TabIs X.K X.w d tb) (ha : XE Ex X .b a fa) (hb : XE Ex X .v b fb) (hm : X.mg N = .some (.ref d)) (hg : Gl X N := by rfl) (hd : (N == ("__debug__" : Str)) = false := by decide)
    (hbase : attributeBase (.Name N p) "get" X.env (eval (.Name N p) X.env) = eval (.Name N p) X.env := by rfl)
    (hfew : ((backTo cpos (starEach [a, b] X.env)).all (fun x => !x.1) && (backToKw cpos (keywordEach [] X.env)).all (fun x => x.1.isSome) && decide (([a, b] : List Expr).length + ([] : List Keyword).length + (if ([] : List Keyword).isEmpty then 0 else 1) < 30)) = true := by rfl)
    (hline : (apos.endLine == cpos.line) = true := by rfl) (hs : starEach [a, b] X.env = (false, eval a X.env) :: starEach [b] X.env := by rfl) (hs2 : starEach [b] X.env = (false, eval b X.env) :: starEach [] X.env := by rfl) (hplain : (backTo cpos (starEach [b] X.env)).any (·.1) = false := by rfl) :
    XE Ex X .v (.Call (.Attribute (.Name N p) "get" apos) [a, b] [] cpos) (dKGet tb fa fb) := by
  obtain ⟨ta, hta, qa⟩ := ha
  obtain ⟨tb', htb, qb⟩ := hb
  obtain ⟨es, n, K⟩ := T.is
  refine ⟨_, pe_kmeth K PySem.F.slot_dict_get PySem.F.type_dict_get (mr_kget K) (pe_glob (v := .ref d) hg hm rfl hd) (pa_cons hta (pa_cons htb pa_nil hs2) hs) hbase hfew hline hs hplain, fun W A σ H env P Q k p => ⟨rfl, ?_⟩⟩
  refine qa W A σ H env P _ k ((PostG.bnd k p).mono ?_)
  rintro dx _ H1 _ _ ⟨P1, e1, p1, k1, post⟩ x rx
  cases dx with
  | str z =>
    cases (show x = .str z from rx)
    refine qb W A σ H1 env P1 _ k1 ((PostG.bnd k1 post).mono ?_)
    rintro dy _ H2 _ _ ⟨P2, e2, p2, k2, post2⟩ y ry
    obtain ⟨o, h1, h2⟩ := T.val z
    cases h : tb.lookup z with
    | none =>
      rw [h] at h2 post2
      cases h2
      exact ⟨z, y, _, y, rfl, rfl, h1, rfl, post_here post2 p2 e2 (e1.trans e2) y ry⟩
    | some c =>
      rw [h] at h2 post2
      obtain ⟨u, v, rfl, h3, h4⟩ := h2
      exact ⟨z, y, _, v, rfl, rfl, h1, h3, post_here post2 p2 e2 (e1.trans e2) v (h4 _ _)⟩
  | _ => exact post.elim
end
end Vl
end
section
set_option autoImplicit false
set_option maxRecDepth 100000
/-! V16: xs[::-1]; isinstance with a written row of classes; methods whatever the receiver's type; count. -/
namespace Vl
open PySem L2 PySem.W PySem.Calls PyProof.Rows

section
variable {prog : Program} {w : World} {A : Around} {E : Value → Shared → Prop} { s : Shared }
theorem places_rev (n : Nat) : Builtin.Slice.slicePlaces ((n : Int) - 1) (-1) (-1) = n := by
  (unfold Builtin.Slice.slicePlaces)
  have h1 : (¬ ((-1 : Int) > 0)) := by decide
  simp only [h1, if_false]
  by_cases h : ((n : Int) - 1 > -1)
  · rw [if_pos h]
    have : ((n : Int) - 1 - -1 - 1) / (- -1) = (n : Int) - 1 := by
      rw [show (- -1 : Int) = 1 by decide, Int.ediv_one]; omega
    rw [this]; omega
  · rw [if_neg h]; omega
theorem sliceApplied_rev {sl : Addr} {vk : Value} {n : Nat} {Q : Int × Int × Nat → Shared → Prop} (slc : s.heap.IsSliceOf sl .none .none vk) (prt : IsPart vk (some (-1)))
    (h : Q ((n : Int) - 1, -1, n) s) : wpAny (model prog w) A (Builtin.Slice.sliceApplied (.ref sl) (pure (n : Int))) Q E s := by
  obtain ⟨osl, osg, osc, osd⟩ := id slc
  unfold Builtin.Slice.sliceApplied; unfold Builtin.Slice.sliceFields
  refine wpAny_bind (wpAny_bind (wpAny_field osg osd (x := .none) rfl (wpAny_bind (wpAny_field osg osd (x := .none) rfl (wpAny_bind (wpAny_field osg osd (x := vk) rfl (wpAny_pure ?_)))))))
  refine wpAny_bind (HT.slicePart_ prt ?_)
  show wpAny _ _ (if ((-1 : Int) == 0) = true then _ else _) _ _ s
  rw [if_neg (by decide)]
  refine wpAny_bind (HT.slicePart_ .none (wpAny_bind (HT.slicePart_ .none (wpAny_bind (wpAny_pure ?_)))))
  show wpAny _ _ (pure ((n : Int) - 1, (-1 : Int), Builtin.Slice.slicePlaces ((n : Int) - 1) (-1) (-1))) _ _ s
  rw [places_rev]
  exact wpAny_pure h
theorem pick_revT (xs : Array Value) : ((List.range xs.size).filterMap fun (k : Nat) => xs[((xs.size : Int) - 1 + (k : Int) * (-1)).toNat]?).toArray = xs.toList.reverse.toArray := by
  have h := krv_pick xs
  unfold slicePick at h
  rw [krv_bounds] at h
  have h' : ((sliceRange ((xs.size : Int) - 1) (-1) (-1)).filterMap (xs[·]?)).toArray = xs.toList.reverse.toArray := h
  rw [krv_sliceRange, List.filterMap_map] at h'
  rw [← h']
  congr 1
  have go : ∀ l : List Nat, (∀ k ∈ l, k < xs.size) → l.filterMap (fun (k : Nat) => xs[((xs.size : Int) - 1 + (k : Int) * (-1)).toNat]?) = l.filterMap ((fun x => xs[x]?) ∘ fun k => xs.size - 1 - k) := by
    intro l
    induction l with
    | nil => intro _; rfl
    | cons k l ih =>
      intro h
      have hk := h k List.mem_cons_self
      have e : ((xs.size : Int) - 1 + (k : Int) * (-1)).toNat = xs.size - 1 - k := by omega
      rw [List.filterMap_cons, List.filterMap_cons, ih fun j hj => h j (List.mem_cons_of_mem _ hj), e]
      rfl
  exact go _ fun k hk => List.mem_range.mp hk
theorem getItem_tuple_rev {t sl : Addr} {items : Array Value} {vk : Value} {Q : Value → Shared → Prop} (tup : IsTup s.heap t items) (slc : s.heap.IsSliceOf sl .none .none vk) (prt : IsPart vk (some (-1)))
    (h : Q (.ref s.heap.objs.size) { s with heap := s.heap.push { cls := .type "tuple", data := .seq items.toList.reverse.toArray } }) (hsz : items.size ≤ sizeLine) : wpAny (model prog w) A (getItem (.ref t) (.ref sl)) Q E s := by
  have takn : sizeOk (.seq items.toList.reverse.toArray) := by
    show items.toList.reverse.toArray.size ≤ sizeLine
    rw [List.size_toArray, List.length_reverse, Array.length_toList]
    exact hsz
  obtain ⟨osl, osg, osc, osd⟩ := id slc
  have tyS : s.TypeIs (.ref sl) "slice" := ⟨osl, osg, osc⟩
  unfold getItem
  (try with_reducible refine wpAny_holding ?_)
  (try refine wpAny_bind (wpAny_pure ?_))
  refine wpAny_bind (wpAny_sequenceKey tup.typeIs (by decide) ?_)
  refine wpAny_bind (wpAny_callSpecial?_slot (name := Str.ofString "__getitem__") tup.typeIs PyProof.Rows.slot_tuple_getitem
    (wpAny_call_entry PyProof.Rows.slot_tuple_getitem tup.typeIs entry_tuple_getitem ?_ (args_tuple_getitem _ _)))
  show (wpAny _ _ (Builtin.Tuple.tupleItemsOf (.ref t) >>= _) _ _ s)
  refine wpAny_bind (tupleItemsOf_ tup ?_)
  refine wpAny_bind (wpAny_typeOf tyS ?_)
  rw [if_pos (by decide)]
  refine wpAny_bind (sliceApplied_rev slc prt ?_)
  have nop : ¬ ((((items.size : Int) - 1) == 0 && (-1 : Int) == 1 && items.size == items.size) = true) := by
    intro q
    rw [Bool.and_eq_true] at q; rw [Bool.and_eq_true] at q
    exact absurd q.1.2 (by decide)
  show wpAny _ _ (if (((items.size : Int) - 1) == 0 && (-1 : Int) == 1 && items.size == items.size) = true then _ else _) _ _ s
  rw [if_neg nop, pick_revT]
  first
    | exact wpAny_bind (m := Builtin.Tuple.tupleExact _) (wpAny_newObj_type (wpAny_pure ⟨_, rfl, wpAny_pure h⟩) takn)
    | exact wpAny_bind (m := Builtin.Tuple.tupleExact _) (wpAny_newObj_type (wpAny_bind (wpAny_pure (wpAny_pure ⟨_, rfl, wpAny_pure h⟩))) takn)
    | exact wpAny_bind (wpAny_bind (m := Builtin.Tuple.tupleExact _) (wpAny_newObj_type (wpAny_pure (wpAny_pure ⟨_, rfl, wpAny_pure h⟩)) takn))
    | exact wpAny_bind (wpAny_bind (m := Builtin.Tuple.tupleExact _) (wpAny_newObj_type (wpAny_pure ⟨_, rfl, wpAny_pure h⟩) takn))
end

/-! ### xs[::-1] -/
def rRev (K : PySem.W.Frag) : V → Hp → VK → Prop := fun x H Q => (∃ a xs, x = .ref a ∧ SqL K H a xs ∧ ∀ p, H p = none → Q (.ref p) (upd H p (.lst xs.reverse))) ∨ (∃ a xs, x = .ref a ∧ SqT K H a xs ∧ nT xs.reverse H Q) ∨
  ∃ z : Str, x = .str z ∧ z.length ≤ sizeLine ∧ Q (.str (Txt.sliceBy z none none (-1, (0 : Tok)))) H
def dRev : D → Option D
  | .list xs => some (.list xs.reverse)
  | .tuple xs => some (.tuple xs.reverse)
  | .str z => if z.length ≤ 16777216 then some (.str (Txt.sliceBy z none none (-1, (0 : Tok)))) else none
  | _ => none
def d1 (g : D → Option D) (f : Env → M D) : Env → M D := fun env => bnd (f env) fun d => orNo (g d)
theorem sliceBy_tok (z : Str) (u : Tok) : Txt.sliceBy z none none (-1, u) = Txt.sliceBy z none none (-1, (0 : Tok)) := rfl
theorem pe_revA {X : Cx} {e : Expr} {te : TE} {k : Nat} {p1 p2 p3 pos : Pos} (he : PE X e te) : PE X (.Subscript e (.Slice none none (some (.UnaryOp .USub (.Constant (.int 1) k p1) p2)) p3) pos) (fun σ H Q => te σ H fun x H1 => rRev X.K x H1 Q) := by
  refine ⟨fun pins s σ H Q iv h => ?_⟩
  refine Subscript_ (thn (he.run pins s σ H _ iv h) fun v s1 ⟨x, H1, iv1, r1, q⟩ => ?_)
  have stp : PO X (some (.UnaryOp .USub (.Constant (.int 1) k p1) p2)) (tPart (tUn (rU fun i => .int (-i)) (tC (.int 1)))) := po_some (pe_un un_neg pe_int)
  refine wpAny_Slice (thn (po_none.run pins s1 σ H1 (fun o H2 => o = none ∧ H2 = H1) iv1 ⟨rfl, rfl⟩) fun vl s2 ⟨l, H2, iv2, pl, el, e2⟩ => ?_)
  subst el e2
  refine thn (po_none.run pins s2 σ H2 (fun o H3 => o = none ∧ H3 = H2) iv2 ⟨rfl, rfl⟩) fun vu s3 ⟨u, H3, iv3, pu, eu, e3⟩ => ?_
  subst eu e3
  refine thn (stp.run pins s3 σ H3 (fun o H4 => o = some (-1) ∧ H4 = H3) iv3 ⟨1, rfl, -1, rfl, rfl, rfl⟩) fun vs s4 ⟨o, H4, iv4, ps, eo, e4⟩ => ?_
  subst eo e4
  have iv5 : L2.Inv X pins σ H4 { s4 with heap := s4.heap.push { cls := .type "slice", data := .fields #[vl, vu, vs] } } := iv4.kept (t' := s4.toks) fun b ob q => Heap.get?_push_of_some _ q
  show wpAny (model X.prog X.w) X.A (subscriptTail e (.Slice none none (some (.UnaryOp .USub (.Constant (.int 1) k p1) p2)) p3) v (.ref s4.heap.objs.size)) (EP X pins σ Q) X.xe { s4 with heap := s4.heap.push { cls := .type "slice", data := .fields #[vl, vu, vs] } }
  cases pl
  cases pu
  rcases q with ⟨a, xs, rfl, hx, q⟩ | ⟨a, xs, rfl, hx, q⟩ | ⟨z, rfl, szz, q⟩
  · cases r1
    obtain ⟨itz, r, tup, szz⟩ := iv5.list hx
    have lnn := r.length
    refine tail_any (ops := [.ref a, .ref s4.heap.objs.size]) tup.isList.typeIs (PySem.slot_list_getitem.lookup) ?_ (by with_unfolding_all rfl)
    refine wpAny_getItem_list_slice tup.isList (Heap.IsSliceOf.new _ .none .none vs) .none .none ps (by decide) ?_ (by rw [List.size_toArray]; omega)
    rw [PySem.W.krv_pick]
    refine ⟨.ref _, _, iv5.laid (t' := s4.toks) (o := .lst xs.reverse) (fun b ob q => Heap.get?_push_of_some _ q) (Nat.le_refl _) ?_, rfl, q _ (iv5.hok.fresh (Nat.le_refl _))⟩
    exact ⟨by rw [List.length_reverse]; exact szz, _, 0, r.reverse, Heap.get?_push_size _ rfl⟩
  · cases r1
    obtain ⟨itz, r, tup, szz⟩ := iv5.tuple hx
    have lnn := r.length
    refine tail_any (ops := [.ref a, .ref s4.heap.objs.size]) tup.typeIs (PyProof.Rows.slot_tuple_getitem.lookup) ?_ (by with_unfolding_all rfl)
    refine getItem_tuple_rev tup (Heap.IsSliceOf.new _ .none .none vs) ps ?_ (by rw [List.size_toArray]; omega)
    exact frz_ok iv5 (by rw [List.length_reverse]; exact szz) r.reverse (fun _ _ e => e) q
  · obtain ⟨t, rfl⟩ := r1
    obtain ⟨l, rfl, hl⟩ := IsPart.raw ps
    obtain ⟨u, rfl⟩ : ∃ u, l = some ((-1 : Int), u) := by
      cases l with
      | none => cases hl
      | some j =>
        obtain ⟨j1, j2⟩ := j
        have e : j1 = (-1 : Int) := by simpa using hl
        exact ⟨j2, by rw [e]⟩
    obtain ⟨osl, osg, osc, osd⟩ := Heap.IsSliceOf.new s4.heap .none .none (partValue (some ((-1 : Int), u)))
    refine tail_any (ops := [.str z t, .ref s4.heap.objs.size]) (typeIs_str _ _ _) (PySem.F.slot_str_getitem.lookup) ?_ (by with_unfolding_all rfl)
    refine wpAny_getItem_str_slice (l := none) (u := none) (st := some (-1, u)) ⟨osl, osg, osc, osd⟩ rfl ?_
    have lnn : (Txt.sliceBy z none none (-1, u)).length ≤ sizeLine := by rw [step_rev_len]; exact szz
    rw [← sliceBy_tok z u] at q
    unfold Txt.sliceBy at q lnn
    unfold sliceMade
    by_cases c : (((some ((-1 : Int), u)).map (·.1)).getD 1 == 1 && (slicePicked z none none (some (-1, u))).length == z.length) = true
    · rw [if_pos c] at q ⊢
      exact ⟨.str z, H4, iv5, ⟨t, rfl⟩, q⟩
    · rw [if_neg c] at q lnn ⊢
      exact ⟨lnn, .str _, H4, iv5.tok _, ⟨_, rfl⟩, q⟩
section
variable {Ex : Str → Hp → Prop} {X : Cx} {e a : Expr} {f fa : Env → M D} {pos : Pos}
theorem x_rev {k : Nat} {p1 p2 p3 : Pos} (h : XE Ex X .b e f) : XE Ex X .v (.Subscript e (.Slice none none (some (.UnaryOp .USub (.Constant (.int 1) k p1) p2)) p3) pos) (d1 dRev f) := by
  obtain ⟨te, hte, qe⟩ := h
  refine ⟨_, pe_revA hte, fun W A σ H env P Q k p => ?_⟩
  refine qe W A σ H env P _ k ((PostG.bnd k p).mono ?_)
  rintro d _ H1 _ _ ⟨P1, e1, p1, k1, post⟩ x rx
  obtain ⟨d', hd, post2⟩ := post_orNo post
  cases d with
  | list xs =>
    cases hd
    obtain ⟨a, vs, rfl, l, r⟩ := rx
    refine .inl ⟨a, vs, rfl, l.sq, fun p hp => ?_⟩
    have s := same_upd (o := .lst vs.reverse) hp
    exact post_ret post2 s p1 (e1.trans (HExt.of s)) (.ref p) ⟨p, _, rfl, ⟨upd_same, k1.new hp⟩, k1.reps (HExt.of s) r.reverse⟩
  | tuple xs =>
    cases hd
    obtain ⟨a, vs, rfl, l, r⟩ := rx
    exact .inr (.inl ⟨a, vs, rfl, l.sq, nT_rep k1 r.reverse fun v H2 s rv => post_ret post2 s p1 (e1.trans (HExt.of s)) v rv⟩)
  | str z =>
    change (if z.length ≤ 16777216 then some (PyData.str (Txt.sliceBy z none none (-1, (0 : Tok)))) else none) = some d' at hd
    by_cases hl : z.length ≤ 16777216
    · rw [if_pos hl] at hd
      cases hd
      exact .inr (.inr ⟨z, rx, line_le hl, post_here post2 p1 e1 _ rfl⟩)
    · rw [if_neg hl] at hd; cases hd
  | _ => cases hd
end
end Vl
end
section
set_option autoImplicit false
set_option maxRecDepth 100000
/-! V17: isinstance with a written row of classes; methods whatever the receiver's type; count. -/
namespace Vl
open PySem L2 PySem.W PySem.Calls PyProof.Rows PySem.SeqAt

/-- built-in types, each by its name -/
def XTy (X : Cx) (es : List Expr) (Ts : List String) : Prop := ∃ t, PA X es t ∧ ∀ σ H Q, Q (Ts.map V.ty) H → t σ H Q
section
variable {Ex : Str → Hp → Prop} {X : Cx} {pos p p2 : Pos} {e : Expr} {es : List Expr} {fa : Env → M D} {x c : Str} {T : String} {Ts : List String}
theorem xty_nil : XTy X [] [] := ⟨_, pa_nil, fun σ H Q q => q⟩
theorem xty_cons (h : XTy X es Ts) (hmT : X.mg c = none) (hvT : bootBuiltins c = some (.type T)) (hgT : Gl X c := by rfl) (hnT : c ≠ "__name__" := by decide) (hdbT : (c == ("__debug__" : Str)) = false := by decide)
    (hs : starEach (.Name c p2 :: es) X.env = (false, eval (.Name c p2) X.env) :: starEach es X.env := by rfl) : XTy X (.Name c p2 :: es) (T :: Ts) := by
  obtain ⟨t, ht, q⟩ := h
  exact ⟨_, pa_cons (pe_bltn (v := .ty T) hgT hmT hvT rfl hnT hdbT) ht hs, fun σ H Q r => q σ H _ r⟩
theorem clsTys : ∀ Ts : List String, Paired ClsV (Ts.map V.ty) (Ts.map Value.type)
  | [] => .nil
  | T :: Ts => .cons (.ty T) (clsTys Ts)
theorem x_isiT {k : Nat} {tpos : Pos} (ha : XE Ex X .b e fa) (hes : XTy X es Ts) (hT : ∀ T ∈ Ts, T ∈ tyNames) (hl : Ts.length ≤ 16777216) (hm : X.mg x = none) (hv : bootBuiltins x = some (.builtin "isinstance")) (hg : Gl X x := by rfl) (hn : x ≠ "__name__" := by decide)
    (hdb : ((x == ("__debug__" : Str))) = false := by decide) (h1 : starEach [e, .Tuple es k tpos] X.env = (false, eval e X.env) :: starEach [.Tuple es k tpos] X.env := by rfl)
    (h2 : starEach [Expr.Tuple es k tpos] X.env = (false, eval (.Tuple es k tpos) X.env) :: starEach [] X.env := by rfl) (hpl : (backTo pos (starEach [Expr.Tuple es k tpos] X.env)).any (·.1) = false := by rfl) :
    XE Ex X .v (.Call (.Name x p) [e, .Tuple es k tpos] [] pos) (dIsiT Ts fa) := by
  obtain ⟨t, ht, q⟩ := ha
  obtain ⟨ts, hts, qs⟩ := hes
  refine ⟨_, pe_callB call_isiT hg hm hv (pa_cons ht (pa_cons (pe_tup hts) pa_nil h2) h1) hn hdb h1 hpl, fun W A σ H env P Q k p => ?_⟩
  refine q W A σ H env P _ k ((PostG.bnd k p).mono ?_)
  rintro d _ H1 _ _ ⟨P1, e1, p1, k1, post⟩ v r
  refine qs σ H1 _ ⟨line_le (by rw [List.length_map]; exact hl), fun a hn => ?_⟩
  have s := same_upd (o := .tup (Ts.map V.ty)) hn
  have r' : RepB X.K W.pa A (upd H1 a (.tup (Ts.map V.ty))) d v := RepB.ext k1 (HExt.of s) r
  exact ⟨v, a, _, _, _, _, rfl, upd_same, clsTys Ts, ty_of r', kit_any d Ts hT, post_ret post s p1 (e1.trans (HExt.of s)) _ rfl⟩
end

/-! ### methods, the receiver's type found when it is there -/
structure Mt (X : Cx) (name : Str) (T : String) (r : V → List V → Hp → VK → Prop) : Prop where
  pa : PlainAttrs T
  ex : ∃ id, Slot T name id ∧ typeOf (.builtin id) = pure (.type "method_descriptor") ∧ MtR X id r
def tBA (X : Cx) (name : Str) (to : TE) (t : L2.TA) : TE := fun σ H Q => to σ H fun x H1 => ∃ T r, Mt X name T r ∧ tyW X.K T x H1 ∧ t σ H1 fun xs H2 => r x xs H2 Q
def tBA0 (X : Cx) (name : Str) (to : TE) : TE := fun σ H Q => to σ H fun x H1 => ∃ T r, Mt X name T r ∧ tyW X.K T x H1 ∧ r x [] H1 Q
section
variable {X : Cx} {o e : Expr} {es : List Expr} {to : TE} {t : L2.TA} {name : Str} {apos cpos : Pos}
theorem pe_ba0 (ho : PE X o to) (hbase : attributeBase o name X.env (eval o X.env) = eval o X.env := by rfl) (hline : (apos.endLine == cpos.line) = true := by rfl) : PE X (.Call (.Attribute o name apos) [] [] cpos) (tBA0 X name to) := by
  refine ⟨fun pins s σ H Q I h => wpAny_Call_method0_late hbase hline (thn (ho.run pins s σ H _ I h) fun v s1 ⟨x, H1, I1, r1, T, r, ⟨pa, id, slot, hty, hm⟩, ty, q1⟩ => ?_)⟩
  have hh := tyW_is I1 r1 ty
  exact ⟨T, id, pa, slot, hty, hh.1, hh.2, Calls.callWith_builtin rfl (PySem.evalArgs_none (hm pins s1 σ H1 x [] v [] Q I1 r1 .nil q1))⟩
theorem pe_ba (ho : PE X o to) (ha : PA X (e :: es) t)
    (hbase : attributeBase o name X.env (eval o X.env) = eval o X.env := by exact rfl)
    (hfew : ((backTo cpos (starEach (e :: es) X.env)).all (fun x => !x.1) && (backToKw cpos (keywordEach [] X.env)).all (fun x => x.1.isSome) && decide ((e :: es).length + ([] : List Keyword).length + (if ([] : List Keyword).isEmpty then 0 else 1) < 30)) = true := by rfl)
    (hline : (apos.endLine == cpos.line) = true := by exact rfl) (hs : starEach (e :: es) X.env = (false, eval e X.env) :: starEach es X.env := by rfl) (hplain : (backTo cpos (starEach es X.env)).any (·.1) = false := by rfl) :
    PE X (.Call (.Attribute o name apos) (e :: es) [] cpos) (tBA X name to t) := by
  refine ⟨fun pins s σ H Q I h => wpAny_Call_method_late hbase hfew hline rfl (thn (ho.run pins s σ H _ I h) fun v s1 ⟨x, H1, I1, r1, T, r, ⟨pa, id, slot, hty, hm⟩, ty, q1⟩ => ?_)⟩
  have hh := tyW_is I1 r1 ty
  refine ⟨T, id, pa, slot, hty, hh.1, hh.2, ?_⟩
  have hA := (ha.run cpos pins s1 σ H1 _ I1 q1)
  rw [hs] at hA ⊢
  refine Calls.callWith_builtin (show (false || (backTo cpos (starEach es X.env)).any (·.1)) = false by rw [hplain]; rfl) (Calls.evalArgs_plain (thn hA fun us s2 ⟨vs, H2, I2, r2, q2⟩ => ?_))
  exact hm pins s2 σ H2 x vs v us Q I2 r1 r2 q2
end
abbrev Ms := String → Option (D → List D → Option D)
def dMA (ms : Ms) (fo : Env → M D) (fs : Env → M (List D)) : Env → M D := fun env => bnd (fo env) fun dx => match ms (tyD dx) with
  | some g => bnd (fs env) fun ds => orNo (g dx ds)
  | none => no
/-- the methods of this name keep what the table says -/
def MsOk (X : Cx) (name : Str) (kd : Kd) (ms : Ms) : Prop := ∀ T g, ms T = some g → (T = "str" ∨ T = "list" ∨ T = "tuple" ∨ T = "dict") ∧ ∃ r, Mt X name T r ∧ MethD X.K kd r g
section
variable {Ex : Str → Hp → Prop} {X : Cx} {o e : Expr} {es : List Expr} {fo : Env → M D} {fs : Env → M (List D)} {name : Str} {apos cpos : Pos} {ms : Ms} {kd : Kd}
theorem x_ma (hm : MsOk X name kd ms) (ho : XE Ex X .b o fo) (ha : XB Ex X (e :: es) fs)
    (hbase : attributeBase o name X.env (eval o X.env) = eval o X.env := by exact rfl)
    (hfew : ((backTo cpos (starEach (e :: es) X.env)).all (fun x => !x.1) && (backToKw cpos (keywordEach [] X.env)).all (fun x => x.1.isSome) && decide ((e :: es).length + ([] : List Keyword).length + (if ([] : List Keyword).isEmpty then 0 else 1) < 30)) = true := by rfl)
    (hline : (apos.endLine == cpos.line) = true := by exact rfl) (hs : starEach (e :: es) X.env = (false, eval e X.env) :: starEach es X.env := by rfl) (hplain : (backTo cpos (starEach es X.env)).any (·.1) = false := by rfl) :
    XE Ex X kd (.Call (.Attribute o name apos) (e :: es) [] cpos) (dMA ms fo fs) := by
  obtain ⟨to, hto, qo⟩ := ho
  obtain ⟨t, ht, q⟩ := ha
  refine ⟨_, pe_ba hto ht hbase hfew hline hs hplain, fun W A σ H env P Q k p => ?_⟩
  refine qo W A σ H env P _ k ((PostG.bnd k p).mono ?_)
  rintro dx _ H1 _ _ ⟨P1, e1, p1, k1, post⟩ x rx
  cases hg : ms (tyD dx) with
  | none => rw [hg] at post; exact post.elim
  | some g =>
    rw [hg] at post
    obtain ⟨hT, r, hmt, hr⟩ := hm _ _ hg
    refine ⟨tyD dx, r, hmt, ty_w' hT rfl rx, ?_⟩
    refine q W A σ H1 env P1 _ k1 ((PostG.bnd k1 post).mono ?_)
    rintro ds _ H2 _ _ ⟨P2, e2, p2, k2, post2⟩ vs rs
    obtain ⟨d, hd, post3⟩ := post_orNo post2
    refine hr W A σ H2 env P2 x vs dx ds d Q k2 (RepB.ext k1 e2 rx) rs hd fun v H3 s hv => ?_
    exact post_ret post3 s p2 (e2.trans (HExt.of s)) (e1.trans (e2.trans (HExt.of s))) v (rel_back k.pen (e1.trans e2) p2 hv)
theorem x_ma0 (hm : MsOk X name kd ms) (ho : XE Ex X .b o fo)
    (hbase : attributeBase o name X.env (eval o X.env) = eval o X.env := by rfl) (hline : (apos.endLine == cpos.line) = true := by rfl) : XE Ex X kd (.Call (.Attribute o name apos) [] [] cpos) (dMA ms fo aNil) := by
  obtain ⟨to, hto, qo⟩ := ho
  refine ⟨_, pe_ba0 hto hbase hline, fun W A σ H env P Q k p => ?_⟩
  refine qo W A σ H env P _ k ((PostG.bnd k p).mono ?_)
  rintro dx _ H1 _ _ ⟨P1, e1, p1, k1, post⟩ x rx
  cases hg : ms (tyD dx) with
  | none => rw [hg] at post; exact post.elim
  | some g =>
    rw [hg] at post
    obtain ⟨hT, r, hmt, hr⟩ := hm _ _ hg
    refine ⟨tyD dx, r, hmt, ty_w' hT rfl rx, ?_⟩
    obtain ⟨d, hd, post3⟩ := post_orNo (show PostG Ex W.pa H1 (orNo (g dx []) P1) _ from post)
    refine hr W A σ H1 env P1 x [] dx [] d Q k1 rx rfl hd fun v H3 s hv => ?_
    exact post_ret post3 s p1 (e1.trans (HExt.of s)) v (rel_back k.pen e1 p1 hv)
end

/-! ### count of a list, of a tuple -/
def mCountL : D → List D → Option D
  | .list xs, [d] => if PyData.plainAll xs = true ∧ d.plain = true ∧ d.depth ≤ 60 then some (.int ((xs.countP fun y => PyData.eqv y d : Nat) : Int)) else none
  | _, _ => none
def mCountT : D → List D → Option D
  | .tuple xs, [d] => if PyData.plainAll xs = true ∧ d.plain = true ∧ d.depth ≤ 60 then some (.int ((xs.countP fun y => PyData.eqv y d : Nat) : Int)) else none
  | _, _ => none
def rCountS (K : PySem.W.Frag) (mk : List D → D) : V → List V → Hp → VK → Prop := fun x xs H Q => ∃ ds d y A A', xs = [y] ∧ Rep K A H (mk ds) x ∧ Rep K A' H d y ∧ PyData.plainAll ds = true ∧ d.plain = true ∧ d.depth ≤ 60 ∧
  Q (.int ((ds.countP fun y => PyData.eqv y d : Nat) : Int)) H
section
variable {X : Cx} {K : PySem.W.Frag}
theorem mr_countL (hu : X.A.units + 65 < cLine) : MtR X "list.count" (rCountS X.K .list) := by
  intro pins s σ H x xs v us Q I rx r h
  obtain ⟨ds, d, y, A, A', rfl, hx, hy, h1, h2, h3, q⟩ := h
  obtain ⟨u, rfl, ru⟩ := (vals1 r)
  obtain ⟨a, vs, rfl, l, rs⟩ := hx
  cases rx
  obtain ⟨its, rv, pl, _⟩ := I.list (l.sq (K := X.K))
  obtain ⟨as, hr⟩ := Reps.reads I ds _ its rs rv
  obtain ⟨bs, hr2⟩ := Rep.reads I d _ _ hy ru
  exact count_list_data pl.isList hr hr2 h1 h2 (by omega) ⟨.int _, H, I.tok _, ⟨_, rfl⟩, q⟩
theorem mr_countT (hu : X.A.units + 65 < cLine) : MtR X "tuple.count" (rCountS X.K .tuple) := by
  intro pins s σ H x xs v us Q I rx r h
  obtain ⟨ds, d, y, A, A', rfl, hx, hy, h1, h2, h3, q⟩ := h
  obtain ⟨u, rfl, ru⟩ := (vals1 r)
  obtain ⟨a, vs, rfl, l, rs⟩ := hx
  cases rx
  obtain ⟨its, rv, pl, _⟩ := I.tuple l.sq
  obtain ⟨as, hr⟩ := Reps.reads I ds _ its rs rv
  obtain ⟨bs, hr2⟩ := Rep.reads I d _ _ hy ru
  exact count_tuple_data pl hr hr2 h1 h2 (by omega) ⟨.int _, H, I.tok _, ⟨_, rfl⟩, q⟩
theorem md_countL : MethD K .v (rCountS K .list) mCountL := by
  intro W A σ H env P x vs dx ds d Q k rx rs h q
  cases dx with
  | list xs =>
    match ds, rs, h with
    | [d0], rs, h =>
      obtain ⟨v, rfl, rv⟩ := one_arg rs
      change (if PyData.plainAll xs = true ∧ d0.plain = true ∧ d0.depth ≤ 60 then some (PyData.int ((xs.countP fun y => PyData.eqv y d0 : Nat) : Int)) else none) = some d at h
      by_cases hc : PyData.plainAll xs = true ∧ d0.plain = true ∧ d0.depth ≤ 60
      · rw [if_pos hc] at h
        cases h
        obtain ⟨A1, r1⟩ := RepB.rep rx
        obtain ⟨A2, r2⟩ := RepB.rep rv
        exact ⟨xs, d0, v, A1, A2, rfl, r1, r2, hc.1, hc.2.1, hc.2.2, q _ H (Same.refl H) rfl⟩
      · rw [if_neg hc] at h; cases h
    | [], _, h => cases h
    | _ :: _ :: _, _, h => simp [mCountL] at h
  | _ => cases h
theorem md_countT : MethD K .v (rCountS K .tuple) mCountT := by
  intro W A σ H env P x vs dx ds d Q k rx rs h q
  cases dx with
  | tuple xs =>
    match ds, rs, h with
    | [d0], rs, h =>
      obtain ⟨v, rfl, rv⟩ := one_arg rs
      change (if PyData.plainAll xs = true ∧ d0.plain = true ∧ d0.depth ≤ 60 then some (PyData.int ((xs.countP fun y => PyData.eqv y d0 : Nat) : Int)) else none) = some d at h
      by_cases hc : PyData.plainAll xs = true ∧ d0.plain = true ∧ d0.depth ≤ 60
      · rw [if_pos hc] at h
        cases h
        obtain ⟨A1, r1⟩ := RepB.rep rx
        obtain ⟨A2, r2⟩ := RepB.rep rv
        exact ⟨xs, d0, v, A1, A2, rfl, r1, r2, hc.1, hc.2.1, hc.2.2, q _ H (Same.refl H) rfl⟩
      · rw [if_neg hc] at h; cases h
    | [], _, h => cases h
    | _ :: _ :: _, _, h => simp [mCountT] at h
  | _ => cases h
end

/-! ### the tables, by the methods' names -/
def msCount : Ms := fun T => if T = "str" then some mCount else if T = "list" then some mCountL else if T = "tuple" then some mCountT else none
def msFind : Ms := fun T => if T = "str" then some mFind else none
def msUpper : Ms := fun T => if T = "str" then some mUpper else none
def msJoin : Ms := fun T => if T = "str" then some mJoin else none
def msGet : Ms := fun T => if T = "dict" then some mGet else none
section
variable {X : Cx}
theorem ms_one {name : Str} {kd : Kd} {T : String} {g : D → List D → Option D} {r : V → List V → Hp → VK → Prop} (hT : T = "str" ∨ T = "list" ∨ T = "tuple" ∨ T = "dict") (m : Mt X name T r) (h : MethD X.K kd r g) : MsOk X name kd (fun T' => if T' = T then some g else none) := fun T' g' e => by
  by_cases hh : T' = T
  · simp only [if_pos hh] at e; cases e; rw [hh]; exact ⟨hT, r, m, h⟩
  · simp only [if_neg hh] at e; cases e
theorem ms_count (hu : X.A.units + 65 < cLine) : MsOk X "count" .v msCount := fun T g e => by
  unfold msCount at e
  by_cases h1 : T = "str"
  · rw [if_pos h1] at e; cases e; subst h1; exact ⟨.inl rfl, _, ⟨F.plainAttrs_str, _, F.slot_str_count, F.type_str_count, mt_count⟩, md_count⟩
  · rw [if_neg h1] at e
    by_cases h2 : T = "list"
    · rw [if_pos h2] at e; cases e; subst h2; exact ⟨.inr (.inl rfl), _, ⟨F.plainAttrs_list, _, F.slot_list_count, F.type_list_count, mr_countL hu⟩, md_countL⟩
    · rw [if_neg h2] at e
      by_cases h3 : T = "tuple"
      · rw [if_pos h3] at e; cases e; subst h3; exact ⟨.inr (.inr (.inl rfl)), _, ⟨F.plainAttrs_tuple, _, F.slot_tuple_count, F.type_tuple_count, mr_countT hu⟩, md_countT⟩
      · rw [if_neg h3] at e; cases e
theorem ms_find : MsOk X "find" .v msFind := ms_one (.inl rfl) ⟨F.plainAttrs_str, _, F.slot_str_find, F.type_str_find, mt_find⟩ md_find
theorem ms_upper : MsOk X "upper" .v msUpper := ms_one (.inl rfl) ⟨F.plainAttrs_str, _, F.slot_str_upper, F.type_str_upper, mt_upper⟩ md_upper
theorem ms_join : MsOk X "join" .v msJoin := ms_one (.inl rfl) ⟨F.plainAttrs_str, _, F.slot_str_join, F.type_str_join, mt_join⟩ md_join
theorem ms_get (hu : X.A.units + 65 < cLine) : MsOk X "get" .v msGet := ms_one (.inr (.inr (.inr rfl))) ⟨F.plainAttrs_dict, _, F.slot_dict_get, F.type_dict_get, mr_get (by omega)⟩ md_get
end

/-! ### str(x) of an int, of a text -/
def gStr : List D → Option D
  | [.int i] => if i.natAbs.log2 < 1920 then some (.str (toString i)) else none
  | [.str a] => some (.str a)
  | _ => none
def rStrOf : List V → Hp → VK → Prop := fun xs H Q => (∃ i, xs = [.int i] ∧ i.natAbs.log2 < 1920 ∧ Q (.str (toString i)) H) ∨ ∃ a, xs = [.str a] ∧ Q (.str a) H
theorem cr_str {X : Cx} : CallR X (.type "str") rStrOf := call_str_int.or SkE.call_str_str
theorem cd_str {K : PySem.W.Frag} : CallD K .v rStrOf gStr := by
  intro W A σ H env P vs ds d Q k rs hg q
  match ds, rs, hg with
  | [d0], rs, hg =>
    obtain ⟨v, rfl, r⟩ := one_arg rs
    cases d0 with
    | int i =>
      change (if i.natAbs.log2 < 1920 then some (PyData.str (toString i)) else none) = some d at hg
      by_cases hc : i.natAbs.log2 < 1920
      · rw [if_pos hc] at hg; cases hg; cases (show v = .int i from r)
        exact .inl ⟨i, rfl, hc, q _ H (Same.refl H) rfl⟩
      · rw [if_neg hc] at hg; cases hg
    | str a => cases hg; cases (show v = .str a from r); exact .inr ⟨a, rfl, q _ H (Same.refl H) rfl⟩
    | _ => cases hg
  | [], _, hg => cases hg
  | _ :: _ :: _, _, hg => simp [gStr] at hg
end Vl
end
section
set_option autoImplicit false
set_option maxRecDepth 100000
/-! V18: enumerate over a list, a tuple, a text, from any count; the pairs told as the objects they are. -/
namespace Vl
open PySem L2 PySem.W PySem.Calls PyProof.Rows PySem.SeqAt

/-- what is walked -/
inductive SK where
  | l (a : Addr)
  | t (a : Addr)
  | s (z : Str) (t : Tok)
def SK.val : SK → Value
  | .l a => .ref a
  | .t a => .ref a
  | .s z tk => .str z tk
def SK.src (K : PySem.W.Frag) (H : Hp) : SK → List V → Prop
  | .l a, xs => SqL K H a xs
  | .t a, xs => SqT K H a xs
  | .s z _, xs => xs = z.cps.toList.map fun c => V.str ⟨#[c]⟩
def SK.at : SK → Addr → Nat → Heap → Prop
  | .l a, it, i, h => h.IsListIter it a i
  | .t a, it, i, h => h.IsTupleIter it a i
  | .s z tk, it, i, h => h.IsStrIter it (strIterType z) z tk i
def SK.obj : SK → Obj
  | .l a => { cls := .type "list_iterator", data := .fields #[.ref a, .int 0 0] }
  | .t a => { cls := .type "tuple_iterator", data := .fields #[.ref a, .int 0 0] }
  | .s z tk => { cls := .type (strIterType z), data := .fields #[.str z tk, .int 0 0] }
def SK.off : SK → Addr → Prop
  | .l a, c => c ≠ a
  | .t a, c => c ≠ a
  | .s _ _, _ => True
theorem SK.at_at {k : SK} {it : Addr} {i : Nat} {h h' : Heap} (sta : k.at it i h) (e : ∀ o, h.get? it = some o → h'.get? it = some o) : k.at it i h' := by
  cases k with
  | l a => exact (show h'.IsListIter it a i from Heap.IsListIter.at (show h.IsListIter it a i from sta) e)
  | t a => exact (show h'.IsTupleIter it a i from Heap.IsTupleIter.at (show h.IsTupleIter it a i from sta) e)
  | s z t => obtain ⟨o, outE, r⟩ := sta; exact ⟨o, e _ outE, r⟩
theorem SK.at_obj {k : SK} {it : Addr} {i : Nat} {h : Heap} (sta : k.at it i h) : ∃ o, h.get? it = some o ∧ ∀ v, o.data ≠ .cell v := by
  cases k with
  | l a => obtain ⟨o, e, c, d⟩ := sta; exact ⟨o, e, fun v z => by rw [d] at z; cases z⟩
  | t a => obtain ⟨o, e, c, d⟩ := sta; exact ⟨o, e, fun v z => by rw [d] at z; cases z⟩
  | s z t => obtain ⟨o, e, c, d⟩ := sta; exact ⟨o, e, fun v z => by rw [d] at z; cases z⟩
theorem vals_at {xs : List V} {uvs : List Value} {i : Nat} {v : Value} (r : Vals xs uvs) (h : uvs[i]? = some v) : ∃ x, xs[i]? = some x ∧ RelV x v := by
  have hi : i < xs.length := by
    rw [r.length]
    exact ((List.getElem?_eq_some_iff.mp h).1)
  obtain ⟨u, hu, rlu⟩ := r.get (List.getElem?_eq_getElem hi)
  rw [h] at hu
  cases hu
  exact ⟨_, List.getElem?_eq_getElem hi, rlu⟩
section
variable {X : Cx} {pins : List (Addr × Obj)} {σ : L2.St} {H : Hp} { s : Shared }
theorem SK.inj (iv : L2.Inv X pins σ H s) {k : SK} {xs ys : List V} (h : k.src X.K H xs) (h' : k.src X.K H ys) : xs = ys := by
  cases k with
  | l a => exact iv.list_inj h h'
  | t a => exact iv.tuple_inj h h'
  | s z t => exact Eq.trans h (Eq.symm h')
theorem SK.begins (iv : L2.Inv X pins σ H s) {k : SK} {xs : List V} (h : k.src X.K H xs) : ∃ Hh, Begins k.val k.obj Hh ∧ Hh s.heap ∧ ∀ h' : Heap, (h'.get? s.heap.objs.size = some k.obj) → k.at s.heap.objs.size 0 h' := by
  cases k with
  | l a =>
    obtain ⟨itz, rvz, p, _⟩ := iv.list h
    exact ⟨_, begins_list a itz.toArray, p.isList, fun h' e => ⟨_, e, rfl, rfl⟩⟩
  | t a =>
    obtain ⟨itz, rvz, p, _⟩ := iv.tuple h
    exact ⟨_, begins_tuple a itz.toArray, p, fun h' e => ⟨_, e, rfl, rfl⟩⟩
  | s z t => exact ⟨_, begins_text z t, trivial, fun h' e => ⟨_, e, rfl, rfl⟩⟩
structure SDr (X : Cx) (k : SK) (it : Addr) (xs : List V) (h : Heap) (fp : List Addr) (P : Nat → Value → Prop) (St : Nat → Heap → Prop) : Prop where
  d : Draws X.prog X.w X.A.in1 it fp xs.length P St
  mem : it ∈ fp
  out : ∀ c, c ≠ it → k.off c → c ∉ fp
  at_ : ∀ i h, St i h → k.at it i h
  sta : ∀ i, k.at it i h → St i h
  val : ∀ i v, P i v → ∃ x, xs[i]? = some x ∧ RelV x v
theorem SK.draws (iv : L2.Inv X pins σ H s) (clm : X.calm = true) {k : SK} {xs : List V} (h : k.src X.K H xs) (it : Addr) (outE : k.off it) : ∃ fp P St, SDr X k it xs s.heap fp P St := by
  have hh : X.A.in1.handled = none := iv.ok.hd clm
  cases k with
  | l a =>
    obtain ⟨itz, rvz, p, _⟩ := iv.list h
    have hl : itz.toArray.size = xs.length := by rw [List.size_toArray]; exact rvz.length.symm
    refine ⟨[it, a], fun i v => itz.toArray[i]? = some v, fun i h => h.IsListIter it a i ∧ h.IsList a itz.toArray, ?_⟩
    refine ⟨by rw [← hl]; exact Draws.list hh it a (Ne.symm outE) itz.toArray, by simp, fun c h1 h2 h3 => ?_, fun i h sta => sta.1, fun i sta => ⟨sta, p.isList⟩, fun i v hv => vals_at rvz (by simpa using hv)⟩
    have eqz : c = it ∨ c = a := by simpa using h3
    exact eqz.elim h1 h2
  | t a =>
    obtain ⟨itz, rvz, p, _⟩ := iv.tuple h
    have hl : itz.toArray.size = xs.length := by rw [List.size_toArray]; exact rvz.length.symm
    refine ⟨[it, a], fun i v => itz.toArray[i]? = some v, fun i h => h.IsTupleIter it a i ∧ h.IsTuple a itz.toArray, ?_⟩
    refine ⟨by rw [← hl]; exact Draws.tuple hh it a (Ne.symm outE) itz.toArray, by simp, fun c h1 h2 h3 => ?_, fun i h sta => sta.1, fun i sta => ⟨sta, p⟩, fun i v hv => vals_at rvz (by simpa using hv)⟩
    have eqz : c = it ∨ c = a := by simpa using h3
    exact eqz.elim h1 h2
  | s z t =>
    cases h
    refine ⟨[it], fun i v => ∃ c u, z.cps[i]? = some c ∧ v = .str ⟨#[c]⟩ u, fun i h => h.IsStrIter it (strIterType z) z t i, ?_⟩
    refine ⟨by rw [show (z.cps.toList.map fun c => V.str ⟨#[c]⟩).length = z.cps.size by simp]; exact Draws.text hh it z t, by simp, fun c h1 h2 h3 => h1 (by simpa using h3), fun i h sta => sta, fun i sta => sta, fun i v hv => ?_⟩
    obtain ⟨c, u, h1, rfl⟩ := hv
    exact ⟨.str ⟨#[c]⟩, by simp [h1], u, rfl⟩
end

/-! ### enumerate -/
def Itw (K : PySem.W.Frag) (k : SK) (c : Int) : It :=
  ⟨fun i H => ∃ xs, k.src K H xs ∧ i < xs.length, fun i H v H' => ∃ T o x, v = .ref T ∧ H T = none ∧ o.dict = none ∧ H' = upd H T (.frz o (.tup [.int (c + (i : Nat)), x])) ∧ ∀ xs, k.src K H xs → xs[i]? = some x, fun i H => ∃ xs, k.src K H xs ∧ xs.length = i⟩
theorem turn_enumF {P : Program} {w : World} {K : PySem.W.Frag} {elts : List Expr} {kk : Nat} {tpos : Pos} (k : SK) (c : Int) (e it : Addr) (he1 : k.off e) (he2 : k.off it) (hne : e ≠ it) :
    Turn P w K (.Tuple elts kk tpos) (Itw K k c) [e, it] e (fun i h => (∃ old, IsEnum h e it (c + ((i : Nat) : Int)) old) ∧ k.at it i h) where
  mem := by simp
  obj := fun i h sta b hb => by
    obtain ⟨⟨old, he⟩, hi⟩ := sta
    have eqz : b = e ∨ b = it := by simpa using hb
    rcases eqz with z | z
    · rw [z]; exact ⟨_, he, fun _ q => nomatch q⟩
    · rw [z]; exact SK.at_obj hi
  keep := fun i h h' sta kp => let ⟨⟨old, he⟩, hi⟩ := sta; ⟨⟨old, kp e (by simp) _ he⟩, SK.at_at hi fun o q => kp it (by simp) o q⟩
  item := by
    intro X hP wlk hK clm i pins s σ H E iv fpo sta goH
    subst hP wlk hK
    obtain ⟨⟨old, he⟩, hit⟩ := sta
    obtain ⟨xs, srq, atx⟩ := goH
    obtain ⟨fp, Pp, St, D⟩ := SK.draws iv clm srq it he2
    have ltE : e < s.heap.objs.size := Heap.lt_size he
    have ltI : it < s.heap.objs.size := by obtain ⟨_, q, _⟩ := SK.at_obj hit; exact Heap.lt_size q
    refine wpAny_pyNext_enum_itemC D.d he (D.sta i hit) atx hne (D.out e hne he1) fun u h' tk hp outE itA hT szh kpt => ?_
    obtain ⟨x, hxs, rlu⟩ := D.val i u hp
    refine ⟨_, rfl, wpAny_letOwnedTupleGo_enum (s := { s with heap := h', toks := tk + 1 }) outE fun h'' enA sbu => ?_⟩
    have tyo : h''.get? s.heap.objs.size = some { cls := .type "tuple", data := .seq #[.int (c + (i : Nat)) tk, u] } := (sbu.2 _ (Nat.ne_of_gt ltE)).trans hT
    have neu : ObjOk X.prog X.w (upd H s.heap.objs.size (.frz { cls := .type "tuple", data := .seq #[.int (c + (i : Nat)) tk, u] } (.tup [.int (c + (i : Nat)), x]))) h'' s.heap.objs.size (.frz { cls := .type "tuple", data := .seq #[.int (c + (i : Nat)) tk, u] } (.tup [.int (c + (i : Nat)), x])) :=
      ⟨tyo, by show 2 ≤ sizeLine; decide, [.int (c + (i : Nat)) tk, u], .cons ⟨_, rfl⟩ (.cons rlu .nil), ⟨_, tyo, rfl, _, rfl⟩⟩
    have iv1 : L2.Inv X pins σ _ { s with heap := h'', toks := tk + 1 } :=
      iv.turnedNew (ch := [e, it]) (fun b ob hb q => (sbu.2 b (fun z => hb (by simp [z]))).trans (kpt b ob (fun z => hb (by simp [z])) (fun z => hb (by simp [z])) q)) fpo (Nat.le_refl _) neu
    refine ⟨.ref s.heap.objs.size, _, iv1, rfl, ⟨_, _, x, rfl, iv.hok.fresh (Nat.le_refl _), rfl, rfl, fun ys hy => by rw [SK.inj iv hy srq]; exact hxs⟩, ⟨⟨u, ?_⟩, SK.at_at (D.at_ _ _ itA) fun o q => (sbu.2 it (Ne.symm hne)).trans q⟩, fun b hb => ?_⟩
    · have e1 : c + ((i + 1 : Nat) : Int) = c + (i : Int) + 1 := by omega
      rw [e1]; exact enA
    · have hb' : (b < s.heap.objs.size) := by
        have eqz : b = e ∨ b = it := by simpa using hb
        rcases eqz with z | z
        · rw [z]; exact ltE
        · rw [z]; exact ltI
      rw [(upd_ne (Nat.ne_of_lt hb'))]
      exact (fpo b hb).1
  done := by
    intro X hP wlk hK clm i pins s σ H E iv fpo sta goH
    subst hP wlk hK
    obtain ⟨⟨old, he⟩, hit⟩ := sta
    obtain ⟨xs, srq, atx⟩ := goH
    obtain ⟨fp, Pp, St, D⟩ := SK.draws iv clm srq it he2
    obtain ⟨f0, f1, f2, f3, f4, f5⟩ := fpo it (by simp)
    exact wpAny_pyNext_enum_endD D.d he (by rw [atx]; exact D.sta i hit) fun h' eb => ⟨rfl, iv.turned (t' := s.toks) (fun b o hb q => eb b o hb q) f0 f1 f3 f4 f5⟩
  self := fun A i s Q E sta h => let ⟨⟨_, he⟩, _⟩ := sta; wpAny_pyIter_enum he h
/-- a value that may be walked, by itz kind -/
inductive K3 where
  | l | t | s
def SrcV (K : PySem.W.Frag) (H : Hp) (x : V) (xs : List V) : K3 → Prop
  | .l => ∃ a, x = .ref a ∧ SqL K H a xs
  | .t => ∃ a, x = .ref a ∧ SqT K H a xs
  | .s => ∃ z : Str, x = .str z ∧ xs = z.cps.toList.map fun c => V.str ⟨#[c]⟩
def SkV (k : SK) (x : V) : K3 → Prop
  | .l => ∃ a, k = .l a ∧ x = .ref a
  | .t => ∃ a, k = .t a ∧ x = .ref a
  | .s => ∃ z t, k = .s z t ∧ x = .str z
section
variable {X : Cx} {pins : List (Addr × Obj)} {σ : L2.St} {H : Hp} { s : Shared }
theorem SrcV.kindV (iv : L2.Inv X pins σ H s) {x : V} {xs : List V} {v : Value} {κ : K3} (h : SrcV X.K H x xs κ) (r : RelV x v) : ∃ k : SK, k.val = v ∧ SkV k x κ ∧ k.src X.K H xs ∧ (∀ c, s.heap.objs.size ≤ c → k.off c) := by
  cases κ with
  | l =>
    obtain ⟨a, rfl, h⟩ := h
    cases r
    obtain ⟨itz, rvz, p, _⟩ := iv.list h
    obtain ⟨o, outE, _⟩ := p.isList
    exact ⟨.l a, rfl, ⟨a, rfl, rfl⟩, h, fun c clm e => Nat.not_le_of_lt (Heap.lt_size outE) (e ▸ clm)⟩
  | t =>
    obtain ⟨a, rfl, h⟩ := h
    cases r
    obtain ⟨itz, rvz, ⟨o, outE, _⟩, _⟩ := iv.tuple h
    exact ⟨.t a, rfl, ⟨a, rfl, rfl⟩, h, fun c clm e => Nat.not_le_of_lt (Heap.lt_size outE) (e ▸ clm)⟩
  | s =>
    obtain ⟨z, rfl, h⟩ := h
    obtain ⟨t, rfl⟩ := r
    exact ⟨.s z t, rfl, ⟨z, t, rfl, rfl⟩, h, fun _ _ => trivial⟩
theorem enum_come (iv : L2.Inv X pins σ H s) {k : SK} {xs : List V} {c : Int} {elts : List Expr} {kk : Nat} {tpos : Pos} {R : It → Hp → Prop} (h : k.src X.K H xs) (offK : ∀ c, s.heap.objs.size ≤ c → k.off c) (q : R (Itw X.K k c) H) {h' : Heap}
    (he : IsEnum h' (s.heap.objs.size + 1) s.heap.objs.size c .none) (outE : k.at s.heap.objs.size 0 h') (kpt : ∀ b o, s.heap.get? b = some o → h'.get? b = some o) : PIE X pins σ (.Tuple elts kk tpos) R (.ref (s.heap.objs.size + 1)) { s with heap := h' } := by
  have iv2 : L2.Inv X pins σ H { s with heap := h' } := iv.kept (t' := s.toks) kpt
  refine ⟨s.heap.objs.size + 1, [s.heap.objs.size + 1, s.heap.objs.size], _, _, H, rfl, iv2, turn_enumF k c (s.heap.objs.size + 1) s.heap.objs.size (offK _ (Nat.le_succ _)) (offK _ (Nat.le_refl _)) (Nat.succ_ne_self _), ⟨⟨.none, ?_⟩, outE⟩, fun b hb => ?_, q⟩
  · rw [show c + ((0 : Nat) : Int) = c by omega]; exact he
  · have eqz : b = s.heap.objs.size + 1 ∨ b = s.heap.objs.size := by simpa using hb
    have leb : s.heap.objs.size ≤ b := by
      rcases eqz with z | z
      · (rw [z]; exact Nat.le_add_right _ _)
      · rw [z]; exact Nat.le_refl _
    exact iv.fpOk leb (iv.hok.fresh leb)
end
set_option maxHeartbeats 1000000 in
theorem meets_enum1 {v : Value} {o : Obj} {H : Heap → Prop} (B : Begins v o H) :
    Meets (Builtin.«enumerate.__new__» ⟨[.type "enumerate", v], []⟩) (fun _ R s => H s.heap ∧
      R (.ok (.ret (.ref (s.heap.push o).objs.size))) { s with heap := (s.heap.push o).push { cls := .type "enumerate", data := .fields #[.none, .bool false, .ref s.heap.objs.size, rawInt 0, .none, .none] } }) :=
  .of_wp fun prog w A R s => fun h => by
    obtain ⟨hp, g, d, tk, os⟩ := s; obtain ⟨h1, h⟩ := (h)
    have subE := sub_enumerate
    have qq1 : ∀ {A' : Around} {E : Value → Shared → Prop} {Q : Value → Shared → Prop}, Q (.ref hp.objs.size) ⟨hp.push o, g, d, tk, os⟩ → wpAny (model prog w) A' (pyIter v) Q E ⟨hp, g, d, tk, os⟩ :=
      fun q => (B.iter prog w _ _ ⟨hp, g, d, tk, os⟩ _ h1 q)
    wp_walk using qq1
    refine wpAny_stack_any fun sta => wpAny_pure ?_
    split
    · rename_i c _ _ _ _ _
      cases ((c == Value.type "enumerate"))
      · wp_walk using qq1
        exact ⟨_, rfl, h⟩
      · wp_walk using qq1
        exact ⟨_, rfl, h⟩
    · wp_walk using qq1
      exact ⟨_, rfl, h⟩
section
variable {prog : Program} {w : World} {A : Around} {E : Value → Shared → Prop} { s : Shared }
theorem enum_begins1 {v : Value} {o : Obj} {H : Heap → Prop} {Q : Value → Shared → Prop} (B : Begins v o H) (h1 : H s.heap)
    (h : ∀ h', IsEnum h' (s.heap.objs.size + 1) s.heap.objs.size 0 .none → h'.get? s.heap.objs.size = some o → h'.objs.size = s.heap.objs.size + 2 →
      (∀ b ob, s.heap.get? b = some ob → h'.get? b = some ob) → Q (.ref (s.heap.objs.size + 1)) { s with heap := h' }) :
    wpAny (model prog w) A (call (.type "enumerate") [v]) Q E s := by
  refine callType_new F.called_enumerate (by decide) (F.typeCall_enumerate_1 _) (F.newCall_enumerate_1 _) (fun obj => F.args_object_init_2 obj _) F.entry_enumerate_new (meets_enum1 B) ⟨h1, ?_⟩
  have hz : ((s.heap.push o).objs.size = s.heap.objs.size + 1) := Heap.size_push ..
  show _ ∧ _
  rw [hz]
  have he : IsEnum ((s.heap.push o).push { cls := .type "enumerate", data := .fields #[.none, .bool false, .ref s.heap.objs.size, rawInt 0, .none, .none] }) (s.heap.objs.size + 1) s.heap.objs.size 0 .none := by
    have := Heap.get?_push_size (s.heap.push o) (o := { cls := .type "enumerate", data := .fields #[.none, .bool false, .ref s.heap.objs.size, rawInt 0, .none, .none] }) rfl
    rw [hz] at this; exact this
  refine (⟨⟨_, he, rfl⟩, h _ he (Heap.get?_push_of_some _ (Heap.get?_push_size _ B.free)) (by rw [Heap.size_push, hz]) fun b o x => Heap.get?_push_of_some _ (Heap.get?_push_of_some _ x)⟩)
end
/-- the keywords' values, then the call of a built-in class -/
theorem callWith_typeKw {M : Model} {A : Around} {E : Value → Shared → Prop} {s : Shared} {env : PySem.Env} {pos : Pos} {T : String} {e : Expr} {rest : List Expr} {kws : List Keyword} {Q : Value → Shared → Prop}
    (h : wpAny M A (spliced (backTo pos (starEach (e :: rest) env))) (fun vvs s₁ => wpAny M A (evalAll ((backToKw pos (keywordEach kws env)).map (·.2)))
      (fun kvs s₂ => wpAny M A (call (.type T) vvs (((backToKw pos (keywordEach kws env)).filterMap (·.1)).zip kvs)) Q E s₂) E s₁) E s)
    (he : backTo pos (starEach (e :: rest) env) = (false, eval e env) :: backTo pos (starEach rest env) := by exact rfl)
    (hplain : (backTo pos (starEach (e :: rest) env)).any (·.1) = false := by exact rfl)
    (hall : (backToKw pos (keywordEach kws env)).all (·.1.isSome) = true := by exact rfl)
    (hkw : (backToKw pos (keywordEach kws env)).any (·.1.isNone) = false := by exact rfl) :
    wpAny M A (callWith pos (.type T) [] (backTo pos (starEach (e :: rest) env)) (backToKw pos (keywordEach kws env))) Q E s := by
  unfold callWith
  rw [he] at h
  have h' : wpAny M A (evalArgs (.type T) true (backTo pos (starEach (e :: rest) env)) (backToKw pos (keywordEach kws env))) (fun a s₁ => wpAny M A (call (.type T) ([] ++ a.pos) a.kw) Q E s₁) E s := by
    rw [he]
    exact evalArgs_kwB hall h
  refine wpAny_bind (wpAny_holding (wpAny_mono h' (fun a s₁ h₁ => wpAny_bind (wpAny_standAt ?_)) fun _ _ x => x))
  simp only [hkw, Bool.or_false, hplain]
  refine (wpAny_bind (wpAny_pure ?_))
  exact (wpAny_bind (wpAny_mono h₁ (fun r s₂ hr => wpAny_bind (wpAny_holding (wpAny_point (wpAny_pure hr)))) fun _ _ x => x))
def iEnum1 (K : PySem.W.Frag) (t : L2.TA) : TI := fun σ H R => t σ H fun vvs H1 => ∃ x xs κ, vvs = [x] ∧ SrcV K H1 x xs κ ∧ ∀ k, SkV k x κ → R (Itw K k 0) H1
def iEnumS (K : PySem.W.Frag) (t tk : L2.TA) : TI := fun σ H R => t σ H fun vvs H1 => tk σ H1 fun zs H2 => ∃ x xs κ c, vvs = [x] ∧ zs = [.int c] ∧ SrcV K H2 x xs κ ∧ -(2 ^ 63) ≤ c ∧ c < 2 ^ 63 ∧ ∀ k, SkV k x κ → R (Itw K k c) H2
theorem pi_enum1 {X : Cx} {e : Expr} {ta : L2.TA} {p pos tpos : Pos} {elts : List Expr} {kk : Nat} (goH : Gl X "enumerate") (mgE : X.mg "enumerate" = none) (ha : PA X [e] ta) (hs : starEach [e] X.env = [(false, eval e X.env)] := by rfl) :
    PI X (.Tuple elts kk tpos) (.Call (.Name "enumerate" p) [e] [] pos) (iEnum1 X.K ta) := by
  refine ⟨fun pins s σ H R iv h => ?_⟩
  refine Call_ (ld_blt iv goH mgE boot_enumerate (PyProof.Rows.callWith_type1 (thn (ha.run pos pins s σ H _ iv h) fun uvs s1 ⟨vvs, H1, iv1, rl1, qq1⟩ => ?_) hs rfl))
  obtain ⟨x, xs, κ, ex, srq, q⟩ := qq1
  subst ex
  obtain ⟨u, rfl, rlu⟩ := vals1 rl1
  obtain ⟨k, rfl, kpt, hsrc, offK⟩ := SrcV.kindV iv1 srq rlu
  obtain ⟨Hh, B, hB, hat⟩ := SK.begins iv1 hsrc
  exact enum_begins1 B hB fun h' he outE hz hkp => wpAny_pyIter_enum he (enum_come iv1 hsrc offK (q k kpt) he (hat h' outE) hkp)
theorem pi_enumS {X : Cx} {e : Expr} {ta tk : L2.TA} {p pos tpos : Pos} {elts : List Expr} {kk : Nat} {kws : List Keyword} (goH : Gl X "enumerate") (mgE : X.mg "enumerate" = none) (ha : PA X [e] ta) (kpt : PK X kws tk)
    (he : backTo pos (starEach [e] X.env) = (false, eval e X.env) :: backTo pos (starEach [] X.env) := by rfl) (hpl : (backTo pos (starEach [e] X.env)).any (·.1) = false := by rfl)
    (hall : (backToKw pos (keywordEach kws X.env)).all (·.1.isSome) = true := by rfl) (hnone : (backToKw pos (keywordEach kws X.env)).any (·.1.isNone) = false := by rfl) (hks : (backToKw pos (keywordEach kws X.env)).filterMap (·.1) = [Str.ofString "start"] := by rfl) :
    PI X (.Tuple elts kk tpos) (.Call (.Name "enumerate" p) [e] kws pos) (iEnumS X.K ta tk) := by
  refine ⟨fun pins s σ H R iv h => ?_⟩
  refine wpAny_Call_Name_kw (ld_blt iv goH mgE boot_enumerate ?_)
  refine callWith_typeKw (thn (ha.run pos pins s σ H _ iv h) fun uvs s1 ⟨vvs, H1, iv1, rl1, qq1⟩ => thn (kpt.run pos pins s1 σ H1 _ iv1 qq1) fun ws s2 ⟨zs, H2, iv2, r2, q2⟩ => ?_) he hpl hall hnone
  rw [hks]
  obtain ⟨x, xs, κ, c, ex, ez, srq, h0, h1, q⟩ := q2
  subst ex
  subst ez
  obtain ⟨u, rfl, rlu⟩ := vals1 rl1
  obtain ⟨w', rfl, rw'⟩ := vals1 r2
  obtain ⟨t, rfl⟩ := rw'
  obtain ⟨k, rfl, kpt, hsrc, offK⟩ := SrcV.kindV iv2 srq rlu
  obtain ⟨Hh, B, hB, hat⟩ := SK.begins iv2 hsrc
  exact enum_begins_start B hB h0 h1 fun h' he outE hz hkp => wpAny_pyIter_enum he (enum_come iv2 hsrc offK (q k kpt) he (hat h' outE) hkp)
/-- pairs of a count and an item -/
def enumD : Int → List D → List D
  | _, [] => []
  | c, d :: r => .tuple [.int c, d] :: enumD (c + 1) r
theorem enumD_len : ∀ (ds : List D) (c : Int), (enumD c ds).length = ds.length
  | [], _ => rfl
  | _ :: r, c => by rw [enumD, List.length_cons, List.length_cons, enumD_len r]
theorem enumD_get : ∀ (ds : List D) (c : Int) (i : Nat) (d : D), ds[i]? = some d → (enumD c ds)[i]? = some (.tuple [.int (c + (i : Nat)), d])
  | [], _, _, _, h => by (simp at h)
  | x :: r, c, 0, d, h => by
    simp at h
    subst h
    simp [enumD]
  | x :: r, c, i + 1, d, h => by
    have := enumD_get r (c + 1) i d (by simpa using h)
    rw [enumD, List.getElem?_cons_succ, this, show c + 1 + ((i : Nat) : Int) = c + ((i + 1 : Nat) : Int) by omega]
/-- the contents of a walked thing -/
def walkD : D → Option (List D)
  | .list ds => some ds
  | .tuple ds => some ds
  | .str z => some (signs z)
  | _ => none
def k3 : D → K3
  | .list _ => .l
  | .tuple _ => .t
  | _ => .s
theorem walk_src {K : PySem.W.Frag} {A : AS} {H : Hp} {d : D} {v : V} {ds : List D} (h : walkD d = some ds) (r : Rep K A H d v) : ∃ xs, SrcV K H v xs (k3 d) := by
  cases d with
  | list es => cases h; obtain ⟨a, vvs, rfl, l, q⟩ := r; exact ⟨vvs, a, rfl, l.sq⟩
  | tuple es => cases h; obtain ⟨a, vvs, rfl, l, q⟩ := r; exact ⟨vvs, a, rfl, l.sq⟩
  | str z => cases h; exact ⟨_, z, r, rfl⟩
  | _ => cases h
theorem walk_sk {K : PySem.W.Frag} {A : AS} {H : Hp} {d : D} {v : V} {ds : List D} {k : SK} (h : walkD d = some ds) (kpt : SkV k v (k3 d)) (r : Rep K A H d v) : ∃ ys, k.src K H ys ∧ Reps K A H ds ys := by
  cases d with
  | list es =>
    cases h
    obtain ⟨a, vvs, e, l, q⟩ := r
    obtain ⟨b, rfl, rfl⟩ := kpt
    cases e
    exact ⟨vvs, l.sq, q⟩
  | tuple es =>
    cases h
    obtain ⟨a, vvs, e, l, q⟩ := r
    obtain ⟨b, rfl, rfl⟩ := kpt
    cases e
    exact ⟨vvs, l.sq, q⟩
  | str z =>
    cases h
    obtain ⟨z', t, rfl, rfl⟩ := kpt
    cases (show V.str z' = V.str z from r)
    exact ⟨_, rfl, reps_signs _⟩
  | _ => cases h
theorem it_enum {K : PySem.W.Frag} {d : D} {v : V} {ds : List D} {k : SK} {c : Int} (h : walkD d = some ds) (kpt : SkV k v (k3 d)) : ItOk K (Itw K k c) [(v, d)] (enumD c ds) := fun W A σ H env P k0 goH => by
  obtain ⟨ys, h1, h2⟩ := walk_sk h kpt (goH _ List.mem_cons_self)
  refine ⟨⟨ys, h1, by rw [h2.length, enumD_len]⟩, fun i hi => ⟨ys, h1, by rw [h2.length]; rw [enumD_len] at hi; exact hi⟩, fun i x H' hi hy => ?_⟩
  obtain ⟨T, o, y, rfl, hT, outE, rfl, hy⟩ := hy
  obtain ⟨d', hd', rd'⟩ := h2.get (hy ys h1)
  have s := same_upd (o := .frz o (.tup [.int (c + (i : Nat)), y])) hT
  refine ⟨s, _, enumD_get ds c i d' hd', T, _, rfl, .inl ⟨o, upd_same, outE, k0.new hT⟩, .int (c + (i : Nat)), [y], rfl, rfl, y, [], rfl, ?_, rfl⟩
  exact k0.rep (HExt.of s) rd'
def itW (f : Env → M D) (g : List D → M (List D)) : Env → M (List D) := fun env => bnd (f env) fun d => bnd (orNo (walkD d)) g
def itE1 (f : Env → M D) : Env → M (List D) := fun env => bnd (f env) fun d => bnd (orNo (walkD d)) fun ds => ret (enumD 0 ds)
def itES (f g : Env → M D) : Env → M (List D) := fun env => bnd (f env) fun d => bnd (g env) fun
  | .int c => if -(2 ^ 63) ≤ c ∧ c < 2 ^ 63 then bnd (orNo (walkD d)) fun ds => ret (enumD c ds) else no
  | _ => no
section
variable {Ex : Str → Hp → Prop} {X : Cx} {e e2 : Expr} {fa fb : Env → M D} {pos p tpos kpos : Pos} {elts : List Expr} {kk : Nat}
theorem xi_enum1 (mgE : X.mg "enumerate" = none) (ha : XE Ex X .v e fa) (goH : Gl X "enumerate" := by rfl) (hs : starEach [e] X.env = [(false, eval e X.env)] := by rfl) : XI Ex X (.Tuple elts kk tpos) (.Call (.Name "enumerate" p) [e] [] pos) (itE1 fa) := by
  obtain ⟨t, ht, q⟩ := ha
  refine ⟨_, pi_enum1 goH mgE (pa_cons ht pa_nil (by rw [hs]; rfl)) hs, fun W A σ H env P R k p => ?_⟩
  refine q W A σ H env P _ k ((PostG.bnd k p).mono ?_)
  rintro d _ H1 _ _ ⟨P1, e1, p1, k1, post⟩ v r
  cases wlk : walkD d with
  | none => rw [wlk] at post; exact post.elim
  | some ds =>
    rw [wlk] at post
    obtain ⟨xs, hs⟩ := walk_src wlk r
    exact ⟨v, xs, k3 d, rfl, hs, fun k kpt => post_here (a := enumD 0 ds) post p1 e1 _ [(v, d)] (fun g goH => by rcases List.mem_singleton.mp goH with rfl; exact r) (it_enum wlk kpt)⟩
theorem xi_enumS (mgE : X.mg "enumerate" = none) (ha : XE Ex X .v e fa) (hb : XE Ex X .v e2 fb) (goH : Gl X "enumerate" := by rfl) (hs : starEach [e] X.env = [(false, eval e X.env)] := by rfl)
    (he : backTo pos (starEach [e] X.env) = (false, eval e X.env) :: backTo pos (starEach [] X.env) := by rfl) (hpl : (backTo pos (starEach [e] X.env)).any (·.1) = false := by rfl)
    (hall : (backToKw pos (keywordEach [⟨some "start", e2, kpos⟩] X.env)).all (·.1.isSome) = true := by rfl) (hnone : (backToKw pos (keywordEach [⟨some "start", e2, kpos⟩] X.env)).any (·.1.isNone) = false := by rfl) (hks : (backToKw pos (keywordEach [⟨some "start", e2, kpos⟩] X.env)).filterMap (·.1) = [Str.ofString "start"] := by rfl) :
    XI Ex X (.Tuple elts kk tpos) (.Call (.Name "enumerate" p) [e] [⟨some "start", e2, kpos⟩] pos) (itES fa fb) := by
  obtain ⟨t, ht, q⟩ := ha
  obtain ⟨t2, ht2, q2⟩ := hb
  refine ⟨_, pi_enumS goH mgE (pa_cons ht pa_nil (by rw [hs]; rfl)) (pk_cons ht2 pk_nil) he hpl hall hnone hks, fun W A σ H env P R k p => ?_⟩
  refine q W A σ H env P _ k ((PostG.bnd k p).mono ?_)
  rintro d _ H1 _ _ ⟨P1, e1, p1, k1, post⟩ v r
  refine q2 W A σ H1 env P1 _ k1 ((PostG.bnd k1 post).mono ?_)
  rintro dc _ H2 _ _ ⟨P2, e2, p2, k2, post2⟩ v2 r2
  cases dc with
  | int c =>
    change PostG Ex W.pa H2 ((if -(2 ^ 63) ≤ c ∧ c < 2 ^ 63 then bnd (orNo (walkD d)) fun ds => ret (enumD c ds) else no) P2) _ at post2
    by_cases bnd0 : -(2 ^ 63) ≤ c ∧ c < 2 ^ 63
    · rw [if_pos bnd0] at post2
      cases (show v2 = .int c from r2)
      cases wlk : walkD d with
      | none => rw [wlk] at post2; exact post2.elim
      | some ds =>
        rw [wlk] at post2
        have r' := k1.rep e2 r
        obtain ⟨xs, hs⟩ := walk_src wlk r'
        exact ⟨v, xs, k3 d, c, rfl, rfl, hs, bnd0.1, bnd0.2, fun k kpt => post_here (a := enumD c ds) post2 p2 e2 (e1.trans e2) _ [(v, d)] (fun g goH => by rcases List.mem_singleton.mp goH with rfl; exact r') (it_enum wlk kpt)⟩
    · rw [if_neg bnd0] at post2; exact post2.elim
  | _ => exact post2.elim
end
end Vl
end
section
set_option autoImplicit false
set_option maxRecDepth 100000
/-! V19: zip of two, each a list, a tuple, a text. -/
namespace Vl
open PySem L2 PySem.W PySem.Calls PyProof.Rows PySem.SeqAt

structure Cells (z TI TO i1 i2 : Addr) (k1 k2 : SK) : Prop where
  TIz : TI ≠ z
  TOz : TO ≠ z
  TITO : TI ≠ TO
  TIi1 : TI ≠ i1
  TIi2 : TI ≠ i2
  zi1 : z ≠ i1
  zi2 : z ≠ i2
  TOi1 : TO ≠ i1
  TOi2 : TO ≠ i2
  i12 : i1 ≠ i2
  o1 : ∀ c ∈ [z, TI, TO, i1, i2], k1.off c
  o2 : ∀ c ∈ [z, TI, TO, i1, i2], k2.off c
theorem Cells.sep {X : Cx} {z TI TO i1 i2 : Addr} {k1 k2 : SK} {xs ys : List V} {h : Heap} {fp1 fp2 : List Addr} {P1 P2 : Nat → Value → Prop} {St1 St2 : Nat → Heap → Prop} (c : Cells z TI TO i1 i2 k1 k2) (D1 : SDr X k1 i1 xs h fp1 P1 St1) (D2 : SDr X k2 i2 ys h fp2 P2 St2) :
    ZipSep2 z TI TO i1 i2 fp1 fp2 :=
  { TIz := c.TIz, TOz := c.TOz, TITO := c.TITO, TIi1 := c.TIi1, mem1 := D1.mem, zf1 := D1.out _ c.zi1 (c.o1 _ (by simp)), Tf1 := D1.out _ c.TOi1 (c.o1 _ (by simp)),
    TIi2 := c.TIi2, mem2 := D2.mem, zf2 := D2.out _ c.zi2 (c.o2 _ (by simp)), Tf2 := D2.out _ c.TOi2 (c.o2 _ (by simp)),
    sep1_2 := D2.out _ c.i12 (c.o2 _ (by simp)), sep2_1 := D1.out _ (Ne.symm c.i12) (c.o1 _ (by simp)) }
def Itzz (K : PySem.W.Frag) (k1 k2 : SK) : It :=
  ⟨fun i H => ∃ xs ys, k1.src K H xs ∧ k2.src K H ys ∧ i < xs.length ∧ i < ys.length,
    fun i H v H' => ∃ T o x y, v = .ref T ∧ H T = none ∧ o.dict = none ∧ H' = upd H T (.frz o (.tup [x, y])) ∧ (∀ xs, k1.src K H xs → xs[i]? = some x) ∧ ∀ ys, k2.src K H ys → ys[i]? = some y,
    fun i H => ∃ xs ys, k1.src K H xs ∧ k2.src K H ys ∧ i = min xs.length ys.length⟩
theorem turn_zipF {P : Program} {w : World} {K : PySem.W.Frag} {elts : List Expr} {kk : Nat} {tpos : Pos} {k1 k2 : SK} {z TI TO i1 i2 : Addr} (C : Cells z TI TO i1 i2 k1 k2) :
    Turn P w K (.Tuple elts kk tpos) (Itzz K k1 k2) [z, TI, TO, i1, i2] z (fun i h => IsZip h z TI TO .none ∧ IsTupOf2 h TI (.ref i1) (.ref i2) ∧ (∃ a1 a2, IsTupOf2 h TO a1 a2) ∧ k1.at i1 i h ∧ k2.at i2 i h) where
  mem := by simp
  obj := fun i h sta c clm => by
    obtain ⟨hz, tiH, ⟨x, y, toH⟩, h1, h2⟩ := sta
    have eqz : c = z ∨ c = TI ∨ c = TO ∨ c = i1 ∨ c = i2 := by simpa using clm
    rcases eqz with q | q | q | q | q
    · rw [q]; exact ⟨_, hz, fun _ q => nomatch q⟩
    · rw [q]; exact ⟨_, tiH, fun v q => nomatch q⟩
    · rw [q]; exact ⟨_, toH, fun v q => nomatch q⟩
    · rw [q]; exact SK.at_obj h1
    · rw [q]; exact SK.at_obj h2
  keep := fun i h h' sta k => by
    obtain ⟨hz, tiH, ⟨x, y, toH⟩, h1, h2⟩ := sta
    exact ⟨k z (by simp) _ hz, k TI (by simp) _ tiH, ⟨x, y, k TO (by simp) _ toH⟩, SK.at_at h1 fun o q => k i1 (by simp) o q, SK.at_at h2 fun o q => k i2 (by simp) o q⟩
  item := by
    intro X hP hw hK clm i pins s σ H E iv fpo sta goH
    subst hP hw hK
    obtain ⟨hz, tiH, ⟨x0, y0, toH⟩, h1, h2⟩ := sta
    obtain ⟨xs, ys, sqx, sqy, atx, aty⟩ := goH
    obtain ⟨fp1, P1, St1, D1⟩ := SK.draws iv clm sqx i1 (C.o1 _ (by simp))
    obtain ⟨fp2, P2, St2, D2⟩ := SK.draws iv clm sqy i2 (C.o2 _ (by simp))
    have hlt : ∀ b ∈ [z, TI, TO, i1, i2], b < s.heap.objs.size := fun c clm => by
      have eqz : c = z ∨ c = TI ∨ c = TO ∨ c = i1 ∨ c = i2 := by simpa using clm
      rcases eqz with q | q | q | q | q
      · rw [q]; exact Heap.lt_size hz
      · rw [q]; exact Heap.lt_size tiH
      · rw [q]; exact Heap.lt_size toH
      · rw [q]; obtain ⟨_, e, _⟩ := SK.at_obj h1; exact Heap.lt_size e
      · rw [q]; obtain ⟨_, e, _⟩ := SK.at_obj h2; exact Heap.lt_size e
    have ltZ : z < s.heap.objs.size := hlt z (by simp)
    refine wpAny_pyNext_zipD2_item (C.sep D1 D2) D1.d D2.d hz tiH toH (D1.sta i h1) (D2.sta i h2) atx aty fun u u2 h' tk hp1 hp2 zA TO' st1 st2 hT szh kpt => ?_
    obtain ⟨x, gx, rlu⟩ := D1.val i u hp1
    obtain ⟨y, gy, rlw⟩ := D2.val i u2 hp2
    refine ⟨_, rfl, wpAny_letOwnedTupleGo_zip (s := { s with heap := h', toks := tk }) zA fun h'' zB sbu => ?_⟩
    have tyo : h''.get? s.heap.objs.size = some { cls := .type "tuple", data := .seq #[u, u2] } := (sbu.2 _ (Nat.ne_of_gt ltZ)).trans hT
    have neu : ObjOk X.prog X.w (upd H s.heap.objs.size (.frz { cls := .type "tuple", data := .seq #[u, u2] } (.tup [x, y]))) h'' s.heap.objs.size (.frz { cls := .type "tuple", data := .seq #[u, u2] } (.tup [x, y])) :=
      ⟨tyo, by show 2 ≤ sizeLine; decide, [u, u2], .cons rlu (.cons rlw .nil), ⟨_, tyo, rfl, _, rfl⟩⟩
    have iv1 : L2.Inv X pins σ _ { s with heap := h'', toks := tk } :=
      iv.turnedNew (ch := [z, TI, TO, i1, i2]) (fun c o hb q => (sbu.2 c (fun q' => hb (by simp [q']))).trans (kpt c o (fun q' => hb (by simp [q'])) (fun q' => hb (by simp [q'])) (fun q' => hb (by simp [q'])) (fun q' => hb (by simp [q'])) q)) fpo (Nat.le_refl _) neu
    refine ⟨.ref s.heap.objs.size, _, iv1, rfl, ⟨_, _, x, y, rfl, iv.hok.fresh (Nat.le_refl _), rfl, rfl, fun l hl => by rw [SK.inj iv hl sqx]; exact gx, fun l hl => by rw [SK.inj iv hl sqy]; exact gy⟩, ⟨zB, ?_, ⟨u, u2, ?_⟩, ?_, ?_⟩, fun c hcm => ?_⟩
    · exact (sbu.2 _ C.TIz).trans (kpt _ _ C.TIz C.TITO C.TIi1 C.TIi2 tiH)
    · exact (sbu.2 _ C.TOz).trans TO'
    · exact SK.at_at (D1.at_ _ _ st1) fun o q => (sbu.2 _ (Ne.symm C.zi1)).trans q
    · exact SK.at_at (D2.at_ _ _ st2) fun o q => (sbu.2 _ (Ne.symm C.zi2)).trans q
    · rw [upd_ne (Nat.ne_of_lt (hlt c hcm))]
      exact (fpo c hcm).1
  done := by
    intro X hP hw hK clm i pins s σ H E iv fpo sta goH
    subst hP hw hK
    obtain ⟨hz, tiH, ⟨x0, y0, toH⟩, h1, h2⟩ := sta
    obtain ⟨xs, ys, sqx, sqy, hi⟩ := goH
    obtain ⟨fp1, P1, St1, D1⟩ := SK.draws iv clm sqx i1 (C.o1 _ (by simp))
    obtain ⟨fp2, P2, St2, D2⟩ := SK.draws iv clm sqy i2 (C.o2 _ (by simp))
    refine wpAny_pyNext_zipD2_end (C.sep D1 D2) D1.d D2.d hz tiH toH (D1.sta i h1) (D2.sta i h2) (by omega) (by omega) (by omega) fun h' tk kpt => ⟨rfl, ?_⟩
    exact iv.turnedL (ch := [z, TI, TO, i1, i2]) (fun c o hb q => kpt c o (fun q' => hb (by simp [q'])) (fun q' => hb (by simp [q'])) (fun q' => hb (by simp [q'])) (fun q' => hb (by simp [q'])) q) fpo
  self := fun A i s Q E sta h => wpAny_pyIter_zip sta.1 h

theorem SrcV.mono {K : PySem.W.Frag} {H : Hp} {x : V} {xs : List V} {κ : K3} (h : SrcV K H x xs κ) : SrcV K H x xs κ := h
def iZip2 (K : PySem.W.Frag) (t : L2.TA) : TI := fun σ H R => t σ H fun vvs H1 => ∃ x y xs ys κ1 κ2, vvs = [x, y] ∧ SrcV K H1 x xs κ1 ∧ SrcV K H1 y ys κ2 ∧ ∀ k1 k2, SkV k1 x κ1 → SkV k2 y κ2 → R (Itzz K k1 k2) H1
theorem cells_new (N : Nat) {k1 k2 : SK} (h1 : ∀ c, N ≤ c → k1.off c) (h2 : ∀ c, N ≤ c → k2.off c) : Cells (N + 4) (N + 2) (N + 3) N (N + 1) k1 k2 := by
  have go : ∀ c ∈ [N + 4, N + 2, N + 3, N, N + 1], N ≤ c := fun c clm => by
    have eqz : c = N + 4 ∨ c = N + 2 ∨ c = N + 3 ∨ c = N ∨ c = N + 1 := by simpa using clm
    omega
  exact ⟨by show (N + 2 : Nat) ≠ N + 4; omega, by show (N + 3 : Nat) ≠ N + 4; omega, by show (N + 2 : Nat) ≠ N + 3; omega, by show (N + 2 : Nat) ≠ N; omega, by show (N + 2 : Nat) ≠ N + 1; omega, by show (N + 4 : Nat) ≠ N; omega,
    by show (N + 4 : Nat) ≠ N + 1; omega, by show (N + 3 : Nat) ≠ N; omega, by show (N + 3 : Nat) ≠ N + 1; omega, by show (N : Nat) ≠ N + 1; omega, fun c clm => h1 c (go c clm), fun c clm => h2 c (go c clm)⟩
theorem SK.begins1 {X : Cx} {pins : List (Addr × Obj)} {σ : L2.St} {H : Hp} {s : Shared} (iv : L2.Inv X pins σ H s) {k : SK} {xs : List V} (h : k.src X.K H xs) : ∃ Hh, Begins k.val k.obj Hh ∧ Hh s.heap ∧ ∀ (h' : Heap) (it : Addr), (h'.get? it = some k.obj) → k.at it 0 h' := by
  cases k with
  | l a =>
    obtain ⟨its, rv, p, _⟩ := iv.list h
    exact ⟨_, begins_list a its.toArray, p.isList, fun h' it e => ⟨_, e, rfl, rfl⟩⟩
  | t a =>
    obtain ⟨its, rv, p, _⟩ := iv.tuple h
    exact ⟨_, begins_tuple a its.toArray, p, fun h' it e => ⟨_, e, rfl, rfl⟩⟩
  | s z t => exact ⟨_, begins_text z t, trivial, fun h' it e => ⟨_, e, rfl, rfl⟩⟩
theorem pi_zip2 {X : Cx} {e f : Expr} {ta : L2.TA} {p pos tpos : Pos} {elts : List Expr} {kk : Nat} (goH : Gl X "zip") (mgE : X.mg "zip" = none) (ha : PA X [e, f] ta) (hs : starEach [e, f] X.env = (false, eval e X.env) :: starEach [f] X.env := by rfl)
    (hpl : (backTo pos (starEach [f] X.env)).any (·.1) = false := by rfl) :
    PI X (.Tuple elts kk tpos) (.Call (.Name "zip" p) [e, f] [] pos) (iZip2 X.K ta) := by
  refine ⟨fun pins s σ H R iv h => ?_⟩
  refine Call_ (ld_blt iv goH mgE boot_zip (PyProof.Rows.callWith_type1 (thn (ha.run pos pins s σ H _ iv h) fun uvs s1 ⟨vvs, H1, iv1, rl1, qq1⟩ => ?_) hs hpl))
  obtain ⟨x, y, xs, ys, κ1, κ2, ex, hq1, hq2, q⟩ := qq1
  subst ex
  obtain ⟨u, u2, rfl, rlu, rlw⟩ := vals2 rl1
  obtain ⟨k1, rfl, hk1, hs1, off1⟩ := SrcV.kindV iv1 hq1 rlu
  obtain ⟨k2, rfl, hk2, hs2, off2⟩ := SrcV.kindV iv1 hq2 rlw
  obtain ⟨Hh1, B1, hB1, hat1⟩ := SK.begins1 iv1 hs1
  obtain ⟨Hh2, B2, hB2, hat2⟩ := SK.begins1 iv1 hs2
  refine zip_begins2 B1 B2 hB1 hB2 fun h' hz tiH toH ho1 ho2 szh kpt => wpAny_pyIter_zip hz ?_
  have iv2 : L2.Inv X pins σ H1 { s1 with heap := h' } := iv1.kept (t' := s1.toks) kpt
  refine ⟨s1.heap.objs.size + 4, [s1.heap.objs.size + 4, s1.heap.objs.size + 2, s1.heap.objs.size + 3, s1.heap.objs.size, s1.heap.objs.size + 1], _, _, H1, rfl, iv2, turn_zipF (cells_new s1.heap.objs.size off1 off2), ⟨hz, tiH, ⟨_, _, toH⟩, hat1 _ _ ho1, hat2 _ _ ho2⟩, fun c clm => ?_, q k1 k2 hk1 hk2⟩
  have leb : s1.heap.objs.size ≤ c := by
    have eqz : c = s1.heap.objs.size + 4 ∨ c = s1.heap.objs.size + 2 ∨ c = s1.heap.objs.size + 3 ∨ c = s1.heap.objs.size ∨ c = s1.heap.objs.size + 1 := by simpa using clm
    rcases eqz with z | z | z | z | z <;> rw [z] <;> first | exact Nat.le_refl _ | exact Nat.le_add_right _ _
  exact iv1.fpOk leb (iv1.hok.fresh leb)
/-- pairs of items -/
def zipD : List D → List D → List D
  | a :: r, b :: t => .tuple [a, b] :: zipD r t
  | _, _ => []
theorem zipD_len : ∀ (as bs : List D), (zipD as bs).length = min as.length bs.length
  | [], _ => by simp [zipD]
  | _ :: _, [] => by simp [zipD]
  | a :: r, b :: t => by rw [zipD, List.length_cons, zipD_len r t, List.length_cons, List.length_cons]; omega
theorem zipD_get : ∀ (as bs : List D) (i : Nat) (a b : D), as[i]? = some a → bs[i]? = some b → (zipD as bs)[i]? = some (.tuple [a, b])
  | [], _, _, _, _, h, _ => by (simp at h)
  | _ :: _, [], _, _, _, _, h => by (simp at h)
  | x :: r, y :: t, 0, a, b, h, h2 => by
    simp at h h2
    subst h h2
    simp [zipD]
  | x :: r, y :: t, i + 1, a, b, h, h2 => by
    rw [zipD, List.getElem?_cons_succ]
    exact zipD_get r t i a b (by simpa using h) (by simpa using h2)
theorem it_zip {K : PySem.W.Frag} {d1 d2 : D} {v1 v2 : V} {as bs : List D} {k1 k2 : SK} (h1 : walkD d1 = some as) (h2 : walkD d2 = some bs) (hk1 : SkV k1 v1 (k3 d1)) (hk2 : SkV k2 v2 (k3 d2)) : ItOk K (Itzz K k1 k2) [(v1, d1), (v2, d2)] (zipD as bs) := fun W A σ H env P k0 goH => by
  obtain ⟨xs, s1, rl1⟩ := walk_sk h1 hk1 (goH (v1, d1) (by simp))
  obtain ⟨ys, s2, r2⟩ := walk_sk h2 hk2 (goH (v2, d2) (by simp))
  have e1 := rl1.length
  have e2 := r2.length
  refine ⟨⟨xs, ys, s1, s2, by rw [e1, e2, zipD_len]⟩, fun i hi => ?_, fun i x H' hi aty => ?_⟩
  · rw [zipD_len] at hi
    exact ⟨xs, ys, s1, s2, by omega, by omega⟩
  · obtain ⟨T, o, a, b, rfl, hT, ho, rfl, ha, hb⟩ := aty
    obtain ⟨da, hda, rda⟩ := rl1.get (ha xs s1)
    obtain ⟨db, hdb, rdb⟩ := r2.get (hb ys s2)
    have s := same_upd (o := .frz o (.tup [a, b])) hT
    refine ⟨s, _, zipD_get as bs i da db hda hdb, T, _, rfl, .inl ⟨o, upd_same, ho, k0.new hT⟩, a, [b], rfl, k0.rep (HExt.of s) rda, b, [], rfl, k0.rep (HExt.of s) rdb, rfl⟩
def itZ2 (g : Env → M (List D)) : Env → M (List D) := fun env => bnd (g env) fun
  | [a, b] => bnd (orNo (walkD a)) fun as => bnd (orNo (walkD b)) fun bs => ret (zipD as bs)
  | _ => no
theorem xi_zip2 {Ex : Str → Hp → Prop} {X : Cx} {e f : Expr} {g : Env → M (List D)} {pos p tpos : Pos} {elts : List Expr} {kk : Nat} (mgE : X.mg "zip" = none) (ha : XA Ex X [e, f] g) (goH : Gl X "zip" := by rfl) (hs : starEach [e, f] X.env = (false, eval e X.env) :: starEach [f] X.env := by rfl)
    (hpl : (backTo pos (starEach [f] X.env)).any (·.1) = false := by rfl) : XI Ex X (.Tuple elts kk tpos) (.Call (.Name "zip" p) [e, f] [] pos) (itZ2 g) := by
  obtain ⟨t, ht, q⟩ := ha
  refine ⟨_, pi_zip2 goH mgE ht hs hpl, fun W A σ H env P R k p => ?_⟩
  refine q W A σ H env P _ k ((PostG.bnd k p).mono ?_)
  rintro ds _ H1 _ _ ⟨P1, e1, p1, k1, post⟩ vvs rs
  match ds, rs, post with
  | [d1, d2], rs, post =>
    obtain ⟨v1, r, rfl, rl1, rs⟩ := rs
    obtain ⟨v2, r', rfl, r2, rs⟩ := rs
    cases (show r' = [] from rs)
    cases hw1 : walkD d1 with
    | none => simp only [hw1] at post; exact post.elim
    | some as =>
      cases hw2 : walkD d2 with
      | none => simp only [hw1, hw2] at post; exact post.elim
      | some bs =>
        simp only [hw1, hw2] at post
        obtain ⟨xs, hs1⟩ := walk_src hw1 rl1
        obtain ⟨ys, hs2⟩ := walk_src hw2 r2
        have hgs : ∀ g ∈ [(v1, d1), (v2, d2)], Rep X.K A H1 g.2 g.1 := fun g goH => by
          rcases List.mem_cons.mp goH with rfl | goH
          · exact rl1
          · rcases List.mem_singleton.mp goH with rfl
            exact r2
        exact ⟨v1, v2, xs, ys, k3 d1, k3 d2, rfl, hs1, hs2, fun j1 j2 hj1 hj2 => post_here (a := zipD as bs) post p1 e1 _ [(v1, d1), (v2, d2)] hgs (it_zip hw1 hw2 hj1 hj2)⟩
  | [], _, post => exact post.elim
  | [_], _, post => exact post.elim
  | _ :: _ :: _ :: _, _, post => exact post.elim
end Vl
end
section
set_option autoImplicit false
set_option maxRecDepth 100000
set_option maxHeartbeats 2000000
/-! V20: several except clauses with names; a lambda handed to a def that tells the word of its error. -/
namespace Vl
open PySem PySem.Spec PyProof.Rows L2

abbrev Cl := Value × Nat × (Addr → Value → Option Addr → TS)
/-- the name's slot goes, however the suite ends -/
def Ends.wo (D : Ends) (i : Nat) : Ends := { nx := fun σ' H' => D.nx (σ'.set i none) H', rt := D.rt, bk := fun σ' H' => D.bk (σ'.set i none) H', ct := fun σ' H' => D.ct (σ'.set i none) H' }
def wManyA (K : PySem.W.Frag) (Wout : WX) (D : Ends) : List Cl → WX
  | [] => Wout
  | (c, i, ts) :: r => fun cls d σ H => ∃ b, PySem.W.exmOne K cls c = some b ∧ (b = true → ∀ a, H a = none → ts a cls d (Ends.wo D i) (σ.set i (some (.ref a))) H) ∧ (b = false → wManyA K Wout D r cls d σ H)
inductive HdsA (X : Cx) : List ExceptHandler → List Cl → Prop
  | nil : HdsA X [] []
  | cons {x n : Str} {c : Value} {i : Nat} {ts : Addr → Value → Option Addr → TS} {b₀ : Stmt} {suite : List Stmt} {np pos' : Pos} {hds : List ExceptHandler} {l : List Cl} (hi : X.N[i]? = some n) (hln : X.env.kindOf n = some .local) (hc : Names X x c)
      (hsu : ∀ (a : Addr) (oe : Obj) (cls : Value) (d : Option Addr) (pn : List (Addr × Obj)), Zc cls d oe → (∃ vs, oe.data = .fields vs) → PSs (X.suite a ((a, oe) :: pn)) (b₀ :: suite) (ts a cls d)) (r : HdsA X hds l) :
      HdsA X (.ExceptHandler (some (.Name x np)) (some n) (b₀ :: suite) pos' :: hds) ((c, i, ts) :: l)
section
variable {X : Cx} {body : List Stmt} {h₀ : ExceptHandler} {hds : List ExceptHandler} {l : List Cl} {pos : Pos} {tb : WX → TS} {Wout : WX}
theorem ps_try_manyA (hs : X.stack = X.env :: X.outer) (hf : X.env.frame = some X.env.locals) (hN : X.N.Nodup) (tk : Takes X Wout)
    (hb : ∀ (W : WX) (pn : List (Addr × Obj)) (xe : Value → Shared → Prop), Takes (X.tr pn xe) W → PassesOwn (model X.prog X.w) X.A X.env xe → PSs (X.tr pn xe) body ((tb W)))
    (hh : HdsA X (h₀ :: hds) l) : PS X (.Try body (h₀ :: hds) [] [] pos) (fun D σ H => tb (wManyA X.K Wout D l) D σ H) := by
  refine (⟨fun pins s σ H D I h => ?_⟩)
  have okX := I.ok
  have fr0 : X.A.frames = some (X.env :: X.outer) := by rw [okX.frames, hs]
  refine wpAny_Try_except ?_
  refine wpAny_mono ((hb (wManyA X.K Wout D l) (X.pn ++ pins) (fun e s₁ => wpAny (model X.prog X.w) X.A (noteFrame e X.env) (fun _ s₂ => wpAny (model X.prog X.w) X.A (setFlight e none) (fun _ s₃ =>
    wpAny (model X.prog X.w) X.A (handleBy e X.env (h₀ :: hds)) (SP X pins D) X.xe s₃) X.xe s₂) X.xe s₁) (fun u s' xx => ?_) PassesOwn.looking).run [] s σ H D (I.toTry _) h) (fun f s1 aft => ?_) (fun e s1 he => he)
  · obtain ⟨a, B, sZ, pins', σ', H', cls, d, rfl, ivA, nB, ri, skB, nA, osX, agX, w⟩ := xx
    have ivB : L2.Inv X pins σ' H' sZ := ivA.ofTry okX
    have skA : Sky B (X.env :: X.outer) a (Zc cls d) X.env.locals s'.heap := by rw [← hs]; exact skB
    show (wpAny (model X.prog X.w) X.A (noteFrame (.ref a) X.env) _ _ _)
    refine Sky.land Zc.steady fr0 hf skA fun g3 ld3 ri3 => ?_
    have iv3 : L2.Inv X pins σ' H' { s' with heap := g3 } := ivB.landed nB ld3.1 (ri.trans ri3) osX agX
    obtain ⟨ob3, fs3, at3, cz3, dt3⟩ := ld3.there
    have offF : ∀ {h : Heap} {o : Obj} {vs : Array Value}, h.FunFrames B (X.env :: X.outer) → h.get? a = some o → o.data = .fields vs → a ∉ frs (X.env :: X.outer) := fun {h o vs} ff e dd hm => by
      obtain ⟨_, o', e', hnf⟩ := (ff.mem hm)
      rw [e] at e'; cases e'
      exact hnf _ dd
    have nofF := offF ld3.2.2.1 at3 dt3
    have neL : a ≠ X.env.locals := fun z => nofF (List.mem_filterMap.mpr ⟨X.env, List.mem_cons_self, by rw [hf, z]⟩)
    have neF : a ∉ X.fs := fun hm => by
      obtain ⟨e, he, q⟩ := (List.mem_filterMap.mp hm)
      exact nofF (List.mem_filterMap.mpr ⟨e, List.mem_cons_of_mem _ he, q⟩)
    have su3 := iv3.suite at3 dt3 nA neL neF
    have go : ∀ {hds' : List ExceptHandler} {l' : List Cl}, HdsA X hds' l' → wManyA X.K Wout D l' cls d σ' H' →
        wpAny (model X.prog X.w) X.A (handleBy (.ref a) X.env hds') (SP X pins D) X.xe { s' with heap := g3 } := by
      intro hds' l' hk
      induction hk with
      | nil =>
        intro w
        refine wpAny_handleBy_nil ?_
        obtain ⟨k1, k2, k3, oe, vs, T, oT, ts', he, hz, hd, h1, hr⟩ := id ld3
        unfold PySem.passOn
        refine (wpAny_bind (wpAny_field he hd h1 ?_))
        rw [(if_neg (show ¬ ((Value.ref T == Value.none) = true) from by simp))]
        have fin : wpAny (model X.prog X.w) X.A (setFlight (.ref a) X.env.frame) (fun _ s4 => wpAny (model X.prog X.w) X.A (throw (.ref a) : Sem Flow) (SP X pins D) X.xe s4) X.xe { s' with heap := g3 } := by
          rw [hf]
          refine HandSPX.setFlight_upZ ld3 fun g4 hh4 ri4 => wpAny_throw (tk _ _ ?_)
          exact ⟨a, B, sZ, pins, σ', H', cls, d, rfl, ivB, nB, (ri.trans ri3).trans ri4, .inr (.inr (by rw [hs]; exact hh4)), nA, osX, agX, w⟩
        first
          | exact (wpAny_bind (wpAny_pure (wpAny_bind fin)))
          | exact wpAny_bind fin
      | @cons x n c i ts b₀ suite np pos' hds2 l2 hi hln hc hsu r ih =>
        intro w
        obtain ⟨b, tb1, ys, nn⟩ := w
        have lc0 : Loc X.env.scope n := .inl hln
        refine wpAny_handleBy_cons (codeAny_handlers_test ?_) (by (intro q; cases q))
        have lkT : PySem.W.Looks (model X.prog X.w) g3 (typeOf (.ref a)) cls := fun A Q E s k q => wpAny_typeOf_ref (k _ _ at3) (by rw [cz3.1]; exact q)
        have lkM := PySem.W.exm_one (M := model X.prog X.w) (iv3.kIn) lkT tb1
        have test : ∀ {Q : Value → Shared → Prop} {E : Value → Shared → Prop}, Q c { s' with heap := g3 } → wpAny (model X.prog X.w) (X.A.mark (some (.ref a))) (eval (.Name x np) X.env) Q E { s' with heap := g3 } := fun {Q E} q => by
          obtain ⟨hg, hdbg, hm | ⟨hm, hv, hnn⟩⟩ := (hc)
          · exact ld_glob (X := X.suite a ((a, ob3) :: (X.pn ++ pins))) su3 hg hm q hdbg
          · exact ld_blt (X := X.suite a ((a, ob3) :: (X.pn ++ pins))) su3 hg hm hv q hnn hdbg
        refine test (lkM.here ?_)
        cases b with
        | true =>
          refine (codeAny_handlers_suite_as ?_)
          refine HandSPX.lands_againZ ld3 fun g4 ld4 ri4 => ?_
          have iv4 : L2.Inv X pins σ' H' { s' with heap := g4 } := ivB.landed nB ld4.1 ((ri.trans ri3).trans ri4) osX agX
          obtain ⟨ob4, fs4, at4, cz4, dt4⟩ := ld4.there
          have su4 := iv4.suite at4 dt4 nA neL neF
          refine store_ok (X := X.suite a ((a, ob4) :: (X.pn ++ pins))) (v := .ref a) su4 hN hi lc0 rfl (fun s5 S5 => ?_) (.inr hln)
          refine wpAny_mono ((hsu a ob4 cls d (X.pn ++ pins) cz4 ⟨_, dt4⟩).run [] s5 _ H' _ S5 (ys rfl a nA)) (fun f t6 aft => ?_) (fun _ _ z => False.elim z)
          have fin6 : ∀ {σ6 : L2.St} {H6 : Hp} {Q : Shared → Prop}, L2.Inv (X.suite a ((a, ob4) :: (X.pn ++ pins))) [] σ6 H6 t6 → (∀ t7, L2.Inv X pins (σ6.set i none) H6 t7 → Q t7) →
              wpAny (model X.prog X.w) X.A (do bindName X.env n .none; unbindBehindTheSuite X.env n pos') (fun _ t7 => Q t7) X.xe t6 := fun {σ6 H6 Q} su6 hq => gone_ok (su6.unsuite okX) hN hi hln hq
          cases f with
          | next =>
            obtain ⟨σ6, H6, su6, r6x⟩ := aft
            exact fin6 su6 fun t7 iv7 => ⟨_, _, iv7, r6x⟩
          | brk =>
            obtain ⟨σ6, H6, su6, r6x⟩ := aft
            exact fin6 su6 fun t7 iv7 => ⟨_, _, iv7, r6x⟩
          | cont =>
            obtain ⟨σ6, H6, su6, r6x⟩ := aft
            exact fin6 su6 fun t7 iv7 => ⟨_, _, iv7, r6x⟩
          | ret u =>
            obtain ⟨v6, σ6, H6, su6, r6, r6x⟩ := aft
            exact fin6 su6 fun t7 iv7 => ⟨_, _, _, iv7, r6, r6x⟩
        | false =>
          show (wpAny _ X.A (handleBy (.ref a) X.env hds2) _ _ _)
          exact ih (nn rfl)
    exact go hh w
  · cases f with
    | next =>
      obtain ⟨σ', H', ivA, q⟩ := aft
      exact wpAny_execs_nil ⟨σ', H', ivA.ofTry okX, q⟩
    | brk =>
      obtain ⟨σ', H', ivA, q⟩ := aft
      exact ⟨σ', H', ivA.ofTry okX, q⟩
    | cont =>
      obtain ⟨σ', H', ivA, q⟩ := aft
      exact ⟨σ', H', ivA.ofTry okX, q⟩
    | ret u =>
      obtain ⟨v, σ', H', ivA, r, q⟩ := aft
      exact ⟨v, σ', H', ivA.ofTry okX, r, q⟩
end
end Vl
end
section
set_option autoImplicit false
set_option maxRecDepth 100000
/-! V21: the def that tells the word of the error of a lambda; its call. -/
namespace Vl
open PySem PySem.Spec L2 LamX

/-- which word the clauses tell of an exception of the class cls -/
def wWord (K : PySem.W.Frag) (Q : VK) (cls : Value) (H' : Hp) : List (Addr × Str) → Prop
  | [] => False
  | (a, w) :: r => ∃ b, PySem.W.exmOne K cls (.ref a) = some b ∧ (b = true → Q (.str w) H') ∧ (b = false → wWord K Q cls H' r)
def TTw (K : PySem.W.Frag) (cw : List (Addr × Str)) (last : Str) : (XK → Hp → VK → Prop) → Hp → VK → Prop := fun tl H Q => tl (fun cls _ H' => wWord K Q cls H' cw) H fun _ H' => Q (.str last) H'
/-- the clauses as they stand: class, name, word -/
inductive HdW (sg : Scope) (mg : Str → Option Value) (Ng : List Str) : List ExceptHandler → List (Addr × Str) → Prop
  | nil : HdW sg mg Ng [] []
  | cons {x n w : Str} {i : Nat} {a : Addr} {j : Nat} {np p5 p6 p7 : Pos} {hds : List ExceptHandler} {l : List (Addr × Str)} (hi : Ng[i]? = some n) (hln : sg.names.lookup n = some .local) (hge : sg.names.lookup x = some .globalImplicit) (hme : mg x = some (.ref a))
      (hde : (x == ("__debug__" : Str)) = false) (r : HdW sg mg Ng hds l) : HdW sg mg Ng (.ExceptHandler (some (.Name x np)) (some n) [.Return (some (.Constant (.str w) j p5)) p6] p7 :: hds) ((a, w) :: l)
theorem HdW.as {X : Cx} {sg : Scope} {Ng : List Str} (hN : X.N = Ng) (hs : X.env.scope = sg) : ∀ {hds : List ExceptHandler} {cw : List (Addr × Str)}, HdW sg X.mg Ng hds cw →
    ∃ l : List Cl, HdsA X hds l ∧ ∀ (D : Ends) (cls : Value) (d : Option Addr) (σ : L2.St) (H : Hp), wWord X.K D.rt cls H cw → wManyA X.K (fun _ _ _ _ => False) D l cls d σ H
  | _, _, .nil => ⟨[], .nil, fun D cls d σ H h => h⟩
  | _, _, .cons (x := x) (n := n) (w := w) (i := i) (a := a) hi hln hge hme hde r => by
    obtain ⟨l, h1, h2⟩ := HdW.as hN hs r
    refine ⟨(.ref a, i, fun _ _ _ => tRet (tC (.str w))) :: l, .cons (by rw [hN]; exact hi) (by subst hs; exact hln) ⟨by subst hs; exact hge, hde, .inl hme⟩ (fun b oe cls d pn _ _ => pss_one (ps_ret pe_str)) h1, fun D cls d σ H h => ?_⟩
    obtain ⟨b, e1, e2, e3⟩ := h
    exact ⟨b, e1, fun hb c _ => e2 hb, fun hb => h2 D cls d σ H (e3 hb)⟩
theorem word_gives {X : Cx} {Ng : List Str} {x a q last : Str} {sg : Scope} {g : Addr} {cdg : Value} {hds : List ExceptHandler} {h₀ : ExceptHandler} {cw : List (Addr × Str)} {j : Nat} {p1 p2 p3 p4 p5 p6 : Pos} (hh : HdW sg X.mg Ng (h₀ :: hds) cw) (hnd : Ng.Nodup) (h0 : ∀ f : Addr, (L2.start Ng [V.ref f])[0]? = some (some (V.ref f)))
    : GivesTo X Ng x sg g cdg [.Try [.Expr (.Call (.Name a p1) [] [] p2) p3] (h₀ :: hds) [] [] p4, .Return (some (.Constant (.str last) j p5)) p6] a q (TTw X.K cw last) := by
  intro f c' s H Q tl act hc h
  obtain ⟨l, hl, hw⟩ := HdW.as (X := (cxOf C8.CX0 X.prog X.w X.K X.mg X.base Ng x sg g cdg X.A X.stack s H C8.E0).nox) rfl rfl hh
  refine ⟨_, pss_cons (ps_try_manyA (X := (cxOf C8.CX0 X.prog X.w X.K X.mg X.base Ng x sg g cdg X.A X.stack s H C8.E0).nox)
      (tb := fun W D σ H => ∃ Ech : XK, (∀ cls d σ' H', Ech cls d H' → W cls d σ' H') ∧ σ[0]? = some (some (.ref f)) ∧ H c' = some (CodeO c' q) ∧ tl Ech H fun _ H' => D.nx σ H')
      rfl rfl hnd LamX.takes0 (fun W pn xe tk _ => ?_) hl) (pss_one (ps_ret pe_str)), ?_⟩
  · refine (⟨fun pins s' σ H' D I h' => ?_⟩)
    obtain ⟨Ech, hW, h1, h2, h3⟩ := (h')
    have hp := (act W pn xe Ech p1 p2 tk hW)
    exact (pss_one (ps_expr (pos := p3) hp)).run pins s' σ H' D I ⟨h1, h2, h3⟩
  · exact ⟨fun cls _ H' => wWord X.K Q cls H' cw, fun cls d σ' H' z => hw _ cls d σ' H' z, h0 f, hc, h⟩

/-- the word of the error of a lambda's body: last, if there is none; isa: which error classes are which, by their names -/
def dWord (T : List (Addr × Str)) (isa : Str → Str → Bool) (cw : List (Str × Str)) (last : Str) (f : Env → M D) : Env → M D := fun env P => if P.tb = T then (match f env P with
  | .ok _ P' => .ok (.str last) P'
  | .ex c P' => (match cw.find? fun p => isa c p.1 with
    | some p => .ok (.str p.2) P'
    | none => .no)
  | .no => .no) else .no
/-- the clauses' classes by their addresses -/
def cwOf (ec : EC) (cw : List (Str × Str)) : List (Addr × Str) := cw.map fun p => (ec p.1, p.2)
theorem wWord_of {K : PySem.W.Frag} {ec : EC} {isa : Str → Str → Bool} {Q : VK} {c : Str} {H : Hp} : ∀ {cw : List (Str × Str)} {p : Str × Str}, (∀ q ∈ cw, PySem.W.exmOne K (.ref (ec c)) (.ref (ec q.1)) = some (isa c q.1)) → (cw.find? fun p => isa c p.1) = some p → Q (.str p.2) H → wWord K Q (.ref (ec c)) H (cwOf ec cw)
  | [], _, _, h, _ => nomatch h
  | (a, w) :: r, p, hi, h, q => by
    refine ⟨isa c a, hi _ List.mem_cons_self, fun e => ?_, fun e => ?_⟩
    · rw [List.find?_cons_of_pos (by simpa using e)] at h
      cases h
      exact q
    · rw [List.find?_cons_of_neg (by simpa using e)] at h
      exact wWord_of (fun q hq => hi q (List.mem_cons_of_mem _ hq)) h q
theorem ext_of {pa : PL} {H H1 : Hp} (e : ExtN H H1) : HExt pa H H1 := fun b o h _ t => e b o h t
section
variable {X : Cx} {Ex0 : Str → Hp → Prop} {T : List (Addr × Str)} {x a last : Str} {g c P : Addr} {k : Nat} {pg : Arguments} {bg : List Stmt} {sg : Scope} {dV kV doc pm cdv ct oc : Value} {an od : Option Addr} {osl : Array (Option Value)} {Ng : List Str}
  {params : Arguments} {body : Expr} {scope : Scope} {p lpos pos : Pos} {kd : Kd} {fb : Env → M D} {ec : EC} {isa : Str → Str → Bool} {cw : List (Str × Str)}
theorem x_word (hi : ∀ c, (∃ q ∈ cw, isa c q.1 = true) → ∀ q ∈ cw, PySem.W.exmOne X.K (.ref (ec c)) (.ref (ec q.1)) = some (isa c q.1)) (hg : Gl X x) (hm : X.mg x = some (.ref g)) (hk : PySem.W.keepIn X.K (.ref g) = true)
    (lk : (X.K.lookup g) = some ⟨oc, od, .func (PySem.W.fnOf x x pg bg sg dV kV doc pm an cdv ct), osl⟩) (hcg : PySem.W.codeIn X.K cdv x = true) (hb : L2.Binds X.K (PySem.W.fnOf x x pg bg sg dV kV doc pm an cdv ct) [a] []) (Sg : FnScope Ng [a] sg) (hNg : Ng[0]? = some a) (hva : Vis sg a)
    (hG : GivesTo X Ng x sg g cdv bg a (X.env.qual ++ "<lambda>") (TTw X.K (cwOf ec cw) last))
    (TB : TabB X.base X.mg c P) (hcode : (X.env.code) = .ref c) (hmT : (P, X.env.qual ++ "<lambda>") ∈ T) (hu : ∀ p ∈ T, p.1 = P → p.2 = X.env.qual ++ "<lambda>") (hr : Room (k + 2) X.A) (L : LamS X.env.scope scope) (hdef : defaultsOf params X.env = ([], []))
    (hbind : ∀ (q : Str) (cl : List (Str × Addr)) (pm cv ctv : Value), bindArgs (PySem.W.kla_fn "<lambda>" q params body scope cl pm cv ctv) (⟨[], []⟩) = pure [])
    (hbody : ∀ (A : Around) (outer : List PySem.Env) (s : Shared) (H : Hp) (E : XK) (f c' : Addr), Room k (A.deeper (lamEnv X scope s.heap.objs.size f c')) → XE (exOf ec E) (lamCx X A outer s H E scope f c') kd body fb)
    (hdb : ((x == ("__debug__" : Str))) = false := by decide) (hd : (a == ("__debug__" : Str)) = false := by decide) (hcd : (a == ("__classdict__" : Str)) = false := by decide) :
    XE Ex0 X .v (.Call (.Name x p) [.Lambda params body scope lpos] [] pos) (dWord T isa cw last fb) := by
  refine ⟨_, pe_lamcall (t := fun E => TEof X.K (exOf ec E) kd fb) hg hm hk lk hcg hb Sg hNg hva hG TB hcode hmT hu hr L hdef hbind (fun A outer s H E f c' hr2 => (hbody A outer s H E f c' hr2).can) hdb hd hcd, fun W A σ H env P0 Q k0 post => ?_⟩
  unfold dWord at post
  by_cases hT : P0.tb = T
  · rw [if_pos hT] at post
    have tT : W.pa.tb = T := k0.pen.2.2.symm.trans hT
    refine ⟨by rw [← tT]; exact k0.pen.2.1, fun H1 eN t1 => ?_⟩
    have e1 : HExt W.pa H H1 := ext_of eN
    have p1 : PenOk W.pa H1 P0 := ⟨fun a c z => by
      obtain ⟨q1, q2, q3⟩ := k0.pen.1 a c z
      exact ⟨q1, eN _ _ q2 nt_lst, eN _ _ q3 nt_lst⟩, by rw [tT]; exact t1, k0.pen.2.2⟩
    have k1 := k0.ext e1 p1
    show TEof X.K (exOf ec fun cls _ H' => wWord X.K Q cls H' (cwOf ec cw)) kd fb σ H1 fun _ H' => Q (.str last) H'
    refine ⟨W, A, env, P0, k1, ?_⟩
    cases hf : fb env P0 with
    | ok d P' =>
      rw [hf] at post
      exact fun H' e2 p2 v r => post H' (e1.trans e2) p2 (.str last) rfl
    | ex cn P' =>
      rw [hf] at post
      cases hfd : cw.find? fun p => isa cn p.1 with
      | none => simp only [hfd] at post; exact post.elim
      | some pr =>
        simp only [hfd] at post
        exact fun H' e2 p2 => wWord_of (hi cn ⟨pr, List.mem_of_find?_eq_some hfd, by simpa using List.find?_some hfd⟩) hfd (post H' (e1.trans e2) p2 (.str pr.2) rfl)
    | no => rw [hf] at post; exact post.elim
  · rw [if_neg hT] at post; exact post.elim
end
end Vl
end
section
set_option autoImplicit false
set_option maxRecDepth 100000
/-! V22: small rules that printed derivations name. -/
namespace Vl
open PySem L2
section
variable {Ex : Str → Hp → Prop} {X : Cx} {pos p2 : Pos} {x : Str}
theorem x_gInt {i : Int} (h : ∃ t, X.mg x = some (.int i t)) (hg : Gl X x := by rfl) (hd : (x == ("__debug__" : Str)) = false := by decide) : XE Ex X .v (.Name x pos) (dC (.int i)) := by
  obtain ⟨t, h⟩ := h
  exact x_glob (v := .int i) h ⟨t, rfl⟩ (fun _ _ => rfl) hg hd
theorem x_gStr {z : Str} (h : ∃ t, X.mg x = some (.str z t)) (hg : Gl X x := by rfl) (hd : (x == ("__debug__" : Str)) = false := by decide) : XE Ex X .v (.Name x pos) (dC (.str z)) := by
  obtain ⟨t, h⟩ := h
  exact x_glob (v := .str z) h ⟨t, rfl⟩ (fun _ _ => rfl) hg hd
theorem x_neg {i : Int} {j : Nat} : XE Ex X .v (.UnaryOp .USub (.Constant (.int i) j p2) pos) (dC (.int (-i))) :=
  ⟨_, pe_un un_neg pe_int, fun W A σ H env P Q k p => ⟨i, rfl, post_here p k.pen (.int (-i)) rfl⟩⟩
end
section
variable {Ex : Str → Hp → Prop} {X : Cx} {pos p : Pos} {a : Expr} {fa : Env → M D} {N : Str} {d : Addr} {tb : List (Str × D)}
theorem xt_kin (T : TabIs X.K X.w d tb) (ha : XE Ex X .b a fa) (hm : X.mg N = some (.ref d)) (hg : Gl X N := by rfl) (hd : (N == ("__debug__" : Str)) = false := by decide) (hb : behindInMarks .In (.Name N p) = false := by rfl) : XT Ex X (.Compare a [.In] [.Name N p] pos) (tV (dKIn tb fa)) := by
  obtain ⟨ta, hta, qa⟩ := ha
  obtain ⟨es, n, K⟩ := T.is
  refine ⟨_, pt_cmpR (op_in_kd K) hta (pe_glob (v := .ref d) hg hm rfl hd) hb, sdT_test fun W A σ H env P Q k p => ?_⟩
  refine qa W A σ H env P _ k ((PostG.bnd k p).mono ?_)
  rintro dx _ H1 _ _ ⟨P1, e1, p1, k1, post⟩ x rx
  cases dx with
  | str z =>
    cases (show x = .str z from rx)
    obtain ⟨r, h1, h2⟩ := T.isSome z
    refine ⟨z, r, rfl, rfl, h1, ?_⟩
    rw [h2]
    exact post_here post p1 e1 _ rfl
  | _ => exact post.elim
end
theorem roomU {k : Nat} {A : Around} (hr : Room k A) : A.units + 65 < cLine := by have := hr.un; omega
theorem roomU0 {k : Nat} {A : Around} (hr : Room k A) : A.units + 64 < cLine := by have := hr.un; omega
theorem roomU1 {k : Nat} {A : Around} (hr : Room k A) : A.units + 1 < cLine := by have := hr.un; omega
end Vl
end
section
set_option autoImplicit false
set_option maxRecDepth 100000
/-! V23: the pen's parts read and stored; a def without fuel. -/
namespace Vl
open PySem L2

/-- pen[1], pen[2] -/
def dPenK (i : Nat) : Env → M D := fun env P => match env[i]? with
  | some .pen => .ok (.int P.k) P
  | _ => .no
def dPenS (i : Nat) : Env → M D := fun env P => match env[i]? with
  | some .pen => .ok (.int P.s) P
  | _ => .no
/-- pen[0] -/
def dPenC (i : Nat) : Env → M D := fun env P => match env[i]? with
  | some .pen => .ok (.list (P.cells.map PyData.int)) P
  | _ => .no
def sPenK (i : Nat) (f : Env → M D) : Env → M Fl := fun env => bnd (f env) fun d => fun P => match env[i]?, d with
  | some .pen, .int k => .ok (.nx env) { P with k := k }
  | _, _ => .no
def sPenS (i : Nat) (f : Env → M D) : Env → M Fl := fun env => bnd (f env) fun d => fun P => match env[i]?, d with
  | some .pen, .int k => .ok (.nx env) { P with s := k }
  | _, _ => .no
theorem reps_ints {K : PySem.W.Frag} {A : AS} {H : Hp} : ∀ l : List Int, Reps K A H (l.map PyData.int) (l.map V.int)
  | [] => rfl
  | i :: l => ⟨_, _, rfl, rfl, reps_ints l⟩
section
variable {Ex : Str → Hp → Prop} {X : Cx} {pos p p2 p3 : Pos} {x : Str} {e : Expr} {fa : Env → M D} {kd : Kd}
theorem penAt {K : PySem.W.Frag} {W : Wd} {A : AS} {σ : L2.St} {H : Hp} {env : Env} {P : Pen} {i : Nat} (k : EOk K W A σ H env P) (h : env[i]? = some .pen) :
    ∃ a c, W.pa.pen = some (a, c) ∧ σ[i]? = some (some (.ref a)) ∧ a ≠ c ∧ H a = some (.lst [.ref c, .int P.k, .int P.s]) ∧ H c = some (.lst (P.cells.map V.int)) := by
  obtain ⟨o, e, a, c, hp, rfl⟩ := k.at h
  obtain ⟨h1, h2, h3⟩ := k.pen.1 a c hp
  exact ⟨a, c, hp, e, h1, h2, h3⟩
theorem pe_part {i : Nat} {j : Int} {t : Nat} (hN : X.N[i]? = some x) (hv : Vis X.env.scope x) (hd : (x == ("__debug__" : Str)) = false) (hcd : (x == ("__classdict__" : Str)) = false) :
    PE X (.Subscript (.Name x p) (.Constant (.int j) t p2) pos) (tOp (rIx X.K) (tVar i) (tC (.int j))) := pe_ix ix_seq (pe_var hN hv hd hcd) pe_int fun _ _ => rfl
theorem x_penK (i : Nat) {t : Nat} (hN : X.N[i]? = some x := by rfl) (hv : Vis X.env.scope x := by first | exact Or.inl rfl | exact Or.inr (Or.inl rfl) | exact Or.inr (Or.inr rfl)) (hd : (x == ("__debug__" : Str)) = false := by decide) (hcd : (x == ("__classdict__" : Str)) = false := by decide) :
    XE Ex X .v (.Subscript (.Name x p) (.Constant (.int 1) t p2) pos) (dPenK i) := by
  refine ⟨_, pe_part hN hv hd hcd, fun W A σ H env P Q k post => ?_⟩
  unfold dPenK at post
  cases h : env[i]? with
  | none => rw [h] at post; exact post.elim
  | some s => cases s with
    | pen =>
      rw [h] at post
      obtain ⟨a, c, hp, e, h1, h2, h3⟩ := penAt k h
      exact ⟨.ref a, e, .inl ⟨a, _, 1, .int P.k, rfl, rfl, .inl (.inl h2), rfl, post_here (a := PyData.int P.k) post k.pen _ rfl⟩⟩
    | _ => rw [h] at post; exact post.elim
theorem x_penS (i : Nat) {t : Nat} (hN : X.N[i]? = some x := by rfl) (hv : Vis X.env.scope x := by first | exact Or.inl rfl | exact Or.inr (Or.inl rfl) | exact Or.inr (Or.inr rfl)) (hd : (x == ("__debug__" : Str)) = false := by decide) (hcd : (x == ("__classdict__" : Str)) = false := by decide) :
    XE Ex X .v (.Subscript (.Name x p) (.Constant (.int 2) t p2) pos) (dPenS i) := by
  refine ⟨_, pe_part hN hv hd hcd, fun W A σ H env P Q k post => ?_⟩
  unfold dPenS at post
  cases h : env[i]? with
  | none => rw [h] at post; exact post.elim
  | some s => cases s with
    | pen =>
      rw [h] at post
      obtain ⟨a, c, hp, e, h1, h2, h3⟩ := penAt k h
      exact ⟨.ref a, e, .inl ⟨a, _, 2, .int P.s, rfl, rfl, .inl (.inl h2), rfl, post_here (a := PyData.int P.s) post k.pen _ rfl⟩⟩
    | _ => rw [h] at post; exact post.elim
theorem x_penC (i : Nat) {t : Nat} (hN : X.N[i]? = some x := by rfl) (hv : Vis X.env.scope x := by first | exact Or.inl rfl | exact Or.inr (Or.inl rfl) | exact Or.inr (Or.inr rfl)) (hd : (x == ("__debug__" : Str)) = false := by decide) (hcd : (x == ("__classdict__" : Str)) = false := by decide) :
    XE Ex X .b (.Subscript (.Name x p) (.Constant (.int 0) t p2) pos) (dPenC i) := by
  refine ⟨_, pe_part hN hv hd hcd, fun W A σ H env P Q k post => ?_⟩
  unfold dPenC at post
  cases h : env[i]? with
  | none => rw [h] at post; exact post.elim
  | some s => cases s with
    | pen =>
      rw [h] at post
      obtain ⟨a, c, hp, e, h1, h2, h3⟩ := penAt k h
      refine ⟨.ref a, e, .inl ⟨a, _, 0, .ref c, rfl, rfl, .inl (.inl h2), rfl, post_here (a := PyData.list (P.cells.map PyData.int)) post k.pen _ ⟨c, _, rfl, ⟨h3, fun ⟨c', z⟩ => ?_⟩, reps_ints _⟩⟩⟩
      rw [hp] at z
      cases z
      exact h1 rfl
    | _ => rw [h] at post; exact post.elim
end
section
variable {K : PySem.W.Frag} {W : Wd} {A : AS} {σ : L2.St} {H : Hp} {env : Env} {P : Pen}
/-- the pen's list is written -/
theorem EOk.penW (k : EOk K W A σ H env P) {a c : Addr} (hp : W.pa.pen = some (a, c)) (P' : Pen) (hc : P'.cells = P.cells) (ht : P'.tb = P.tb) : EOk K W A σ (upd H a (.lst [.ref c, .int P'.k, .int P'.s])) env P' := by
  obtain ⟨h1, h2, h3⟩ := k.pen.1 a c hp
  refine k.ext (fun b o h n _ => (upd_ne fun z => n ⟨c, by rw [z]; exact hp⟩).trans h) ⟨fun a' c' z => ?_, tabs_upd k.pen.2.1 (by rw [h2]; trivial), ht.trans k.pen.2.2⟩
  rw [hp] at z
  cases z
  exact ⟨h1, upd_same, by rw [upd_ne (Ne.symm h1), hc]; exact h3⟩
end
section
variable {Ex : Str → Hp → Prop} {X : Cx} {pos p p2 p3 : Pos} {x : Str} {e : Expr} {fa : Env → M D} {kd : Kd}
theorem xs_penK (i : Nat) {t : Nat} (he : XE Ex X .v e fa) (hN : X.N[i]? = some x := by rfl) (hv : Vis X.env.scope x := by first | exact Or.inl rfl | exact Or.inr (Or.inl rfl) | exact Or.inr (Or.inr rfl)) (hd : (x == ("__debug__" : Str)) = false := by decide) (hcd : (x == ("__classdict__" : Str)) = false := by decide)
    (hs : swapsWithSole [.Subscript (.Name x p) (.Constant (.int 1) t p2) p3] e pos.line X.env = pure false := by rfl) (hw : swappedStores [.Subscript (.Name x p) (.Constant (.int 1) t p2) p3] e X.env = pure none := by rfl)
    (h1 : (assignEach [.Subscript (.Name x p) (.Constant (.int 1) t p2) p3] X.env).map (·.2) = [assign (.Subscript (.Name x p) (.Constant (.int 1) t p2) p3) X.env] := by rfl) : XS Ex kd X (.Assign [.Subscript (.Name x p) (.Constant (.int 1) t p2) p3] e pos) (sPenK i fa) := by
  obtain ⟨te, hte, q⟩ := he
  refine ⟨_, ps_asg hte (pg_sub (pe_var hN hv hd hcd) pe_int set_list) hs hw h1, fun W A σ H env P De k post => ?_⟩
  refine q W A σ H env P _ k ((PostS.bnd k post).mono ?_)
  rintro d _ H1 _ _ ⟨P1, e1, p1, k1, post⟩ v r
  cases h : env[i]? with
  | none => rw [h] at post; exact post.elim
  | some s => cases s with
    | pen =>
      rw [h] at post
      cases d with
      | int m =>
        cases (show v = .int m from r)
        obtain ⟨a, c, hp, eo, n1, n2, n3⟩ := penAt k1 h
        refine ⟨.ref a, eo, a, _, 1, 1, rfl, rfl, n2, rfl, ?_⟩
        exact post _ _ _ (k1.penW hp { P1 with k := m } rfl rfl)
      | _ => exact post.elim
    | _ => rw [h] at post; exact post.elim
theorem xs_penS (i : Nat) {t : Nat} (he : XE Ex X .v e fa) (hN : X.N[i]? = some x := by rfl) (hv : Vis X.env.scope x := by first | exact Or.inl rfl | exact Or.inr (Or.inl rfl) | exact Or.inr (Or.inr rfl)) (hd : (x == ("__debug__" : Str)) = false := by decide) (hcd : (x == ("__classdict__" : Str)) = false := by decide)
    (hs : swapsWithSole [.Subscript (.Name x p) (.Constant (.int 2) t p2) p3] e pos.line X.env = pure false := by rfl) (hw : swappedStores [.Subscript (.Name x p) (.Constant (.int 2) t p2) p3] e X.env = pure none := by rfl)
    (h1 : (assignEach [.Subscript (.Name x p) (.Constant (.int 2) t p2) p3] X.env).map (·.2) = [assign (.Subscript (.Name x p) (.Constant (.int 2) t p2) p3) X.env] := by rfl) : XS Ex kd X (.Assign [.Subscript (.Name x p) (.Constant (.int 2) t p2) p3] e pos) (sPenS i fa) := by
  obtain ⟨te, hte, q⟩ := he
  refine ⟨_, ps_asg hte (pg_sub (pe_var hN hv hd hcd) pe_int set_list) hs hw h1, fun W A σ H env P De k post => ?_⟩
  refine q W A σ H env P _ k ((PostS.bnd k post).mono ?_)
  rintro d _ H1 _ _ ⟨P1, e1, p1, k1, post⟩ v r
  cases h : env[i]? with
  | none => rw [h] at post; exact post.elim
  | some s => cases s with
    | pen =>
      rw [h] at post
      cases d with
      | int m =>
        cases (show v = .int m from r)
        obtain ⟨a, c, hp, eo, n1, n2, n3⟩ := penAt k1 h
        refine ⟨.ref a, eo, a, _, 2, 2, rfl, rfl, n2, rfl, ?_⟩
        exact post _ _ _ (k1.penW hp { P1 with s := m } rfl rfl)
      | _ => exact post.elim
    | _ => rw [h] at post; exact post.elim
/-- xs[i] = e, xs an own list -/
def dSetAt (ds : List D) (i : Int) (d : D) : Option (List D) := (ixN ds.length i).map fun j => ds.set j d
def sSetAt (i : Nat) (fa fi : Env → M D) : Env → M Fl := fun env => bnd (fa env) fun d => match env[i]? with
  | some (.own ds) => bnd (fi env) fun
    | .int j => bnd (orNo (dSetAt ds j d)) fun es => ret (.nx (env.set i (.own es)))
    | _ => no
  | _ => no
theorem xs_setAt {e2 : Expr} {fi : Env → M D} (i : Nat) (he : XE Ex X .v e fa) (hi : XE Ex X .v e2 fi) (hN : X.N[i]? = some x := by rfl) (hv : Vis X.env.scope x := by first | exact Or.inl rfl | exact Or.inr (Or.inl rfl) | exact Or.inr (Or.inr rfl)) (hd : (x == ("__debug__" : Str)) = false := by decide) (hcd : (x == ("__classdict__" : Str)) = false := by decide)
    (ha : ∀ v, assign (.Subscript (.Name x p) e2 p3) X.env v = (do
      let ov ← holding [v] (eval (.Name x p) X.env)
      let iv ← holding [v, ov] (eval e2 X.env)
      standAt p3
      (holding [v, ov, iv] (setItem ov iv v))
      release [v, ov, iv] []) := by intro _; rfl)
    (hs : swapsWithSole [.Subscript (.Name x p) e2 p3] e pos.line X.env = pure false := by rfl) (hw : swappedStores [.Subscript (.Name x p) e2 p3] e X.env = pure none := by rfl)
    (h1 : (assignEach [.Subscript (.Name x p) e2 p3] X.env).map (·.2) = [assign (.Subscript (.Name x p) e2 p3) X.env] := by rfl) : XS Ex kd X (.Assign [.Subscript (.Name x p) e2 p3] e pos) (sSetAt i fa fi) := by
  obtain ⟨te, hte, q⟩ := he
  obtain ⟨ti, hti, q2⟩ := hi
  refine ⟨_, ps_asg hte (pg_sub (pe_var hN hv hd hcd) hti set_list ha) hs hw h1, fun W A σ H env P De k post => ?_⟩
  refine q W A σ H env P _ k ((PostS.bnd k post).mono ?_)
  rintro d _ H1 _ _ ⟨P1, e1, p1, k1, post⟩ v r
  cases h : env[i]? with
  | none => rw [h] at post; exact post.elim
  | some sv => cases sv with
    | own ds =>
      rw [h] at post
      obtain ⟨o, eo, a, vs, rfl, _, _, _, _⟩ := k1.at h
      refine ⟨.ref a, eo, q2 W A σ H1 env P1 _ k1 ((PostS.bnd k1 post).mono ?_)⟩
      rintro dj _ H2 _ _ ⟨P2, e2', p2', k2, post2⟩ y ry
      cases dj with
      | int j =>
        cases (show y = .int j from ry)
        obtain ⟨o2, eo2, a2, vs2, e3, _, _, hl2, r2⟩ := k2.at h
        rw [eo] at eo2
        cases eo2
        cases e3
        cases hd2 : dSetAt ds j d with
        | none => simp only [hd2] at post2; exact post2.elim
        | some es =>
          simp only [hd2] at post2
          obtain ⟨n, hn, rfl⟩ := Option.map_eq_some_iff.mp (show (ixN ds.length j).map (fun n => ds.set n d) = some es from hd2)
          refine ⟨a, vs2, j, n, rfl, rfl, hl2, by rw [r2.length]; exact hn, ?_⟩
          exact post2 _ _ _ (k2.write h eo (Reps.set (k1.rep e2' r) n r2))
      | _ => exact post2.elim
    | _ => rw [h] at post; exact post.elim
end
/-- a def of which nothing is promised -/
theorem fnG_no {P : Program} {w : World} {K : PySem.W.Frag} {mg : Str → Option Value} {base : Heap} {gd : Bool} {k n : Nat} {f : Addr} {fd : FuncData} {ps : List Str} {ec : EC} {kd : Kd} (hn : ps.length = n) : FnG P w K mg base gd k f fd ps (spG K ec kd n fun _ _ => .no) :=
  ⟨fun vs H Q E h => h.1.trans hn.symm, fun A outer s H args us vs Q E hr hg e0 hb rv h => by
    obtain ⟨_, _, _, _, _, _, _, _, _, z⟩ := h
    exact z.elim⟩
end Vl
end
section
set_option autoImplicit false
set_option maxRecDepth 100000
/-! V24: the script's slices; an own list let go within a statement. -/
namespace Vl
open PySem L2
def dScr (i : Nat) (fl fh : Env → M (Option Int)) : Env → M D := fun env => match env[i]? with
  | some (.scr ns) => bnd (fl env) fun l => bnd (fh env) fun h => ret (.list (cutD (ns.map PyData.int) l h))
  | _ => no
section
variable {Ex : Str → Hp → Prop} {X : Cx} {pos p p2 : Pos} {x : Str} {lo hi : Option Expr} {fl fh : Env → M (Option Int)}
theorem x_scr (i : Nat) (hl : XO Ex X lo fl) (hh : XO Ex X hi fh) (hN : X.N[i]? = some x := by rfl) (hv : Vis X.env.scope x := by first | exact Or.inl rfl | exact Or.inr (Or.inl rfl) | exact Or.inr (Or.inr rfl)) (hd : (x == ("__debug__" : Str)) = false := by decide) (hcd : (x == ("__classdict__" : Str)) = false := by decide) :
    XE Ex X .f (.Subscript (.Name x p) (.Slice lo hi none p2) pos) (dScr i fl fh) := by
  obtain ⟨tl, htl, ql⟩ := hl
  obtain ⟨th, hth, qh⟩ := hh
  refine ⟨_, pe_slice sl_list (pe_var hN hv hd hcd) htl hth, fun W A σ H env P Q k post => ?_⟩
  unfold dScr at post
  cases h : env[i]? with
  | none => rw [h] at post; exact post.elim
  | some s => cases s with
    | scr ns =>
      rw [h] at post
      obtain ⟨o, e, xv, rfl, r⟩ := k.at h
      refine ⟨xv, e, ql W A σ H env P _ k ((PostG.bnd k post).mono ?_)⟩
      rintro l _ H1 _ _ ⟨P1, e1, p1, k1, post1⟩
      refine qh W A σ H1 env P1 _ k1 ((PostG.bnd k1 post1).mono ?_)
      rintro u _ H2 _ _ ⟨P2, e2, p2', k2, post2⟩
      obtain ⟨o2, eo2, xv2, rfl, r2⟩ := k2.at h
      rw [e] at eo2
      cases eo2
      obtain ⟨a, rfl, sq⟩ := r2.sq
      refine ⟨a, _, rfl, sq, fun q hq => ?_⟩
      have s := same_upd (o := .lst (cutV (ns.map V.int) l u)) hq
      exact post_ret post2 s p2' (e2.trans (HExt.of s)) (e1.trans (e2.trans (HExt.of s))) (.ref q) ⟨q, _, _, rfl, rfl, fresh_back k.pen (e1.trans e2) p2' (.of hq), upd_same, (reps_ints (K := X.K) (A := ad A q) (H := upd H2 q (.lst (cutV (ns.map V.int) l u))) ns).cut l u⟩
    | _ => rw [h] at post; exact post.elim
end
end Vl
end
section
set_option autoImplicit false
set_option maxRecDepth 100000
/-! V25: bits of integers; sums. -/
namespace Vl
open PySem L2

def dShl : D → D → Option D
  | .int i, .int j => guardD (decide (0 ≤ j ∧ j ≤ 1000000 ∧ i.natAbs < 2 ^ 64)) (.int (i * 2 ^ j.toNat))
  | _, _ => none
def dShr : D → D → Option D
  | .int i, .int j => guardD (decide (0 ≤ j)) (.int (i / 2 ^ j.toNat))
  | _, _ => none
def dBand : D → D → Option D
  | .int i, .int j => some (.int (Builtin.bitAnd i j))
  | _, _ => none
def dBor : D → D → Option D
  | .int i, .int j => some (.int (Builtin.bitOr i j))
  | _, _ => none
def intsOf : List D → Option (List Int)
  | [] => some []
  | .int i :: r => (intsOf r).map (i :: ·)
  | _ => none
def gSum : List D → Option D
  | [.list xs] => (intsOf xs).map fun ns => .int ns.sum
  | _ => none
section
variable {X : Cx} {K : PySem.W.Frag}
theorem od_shl : OpD K .v (rI CPow fun i j => .int (i * 2 ^ j.toNat)) dShl := od_int (C := CPow) (f := fun i j => .int (i * 2 ^ j.toNat)) (fun i j H Q c q => ⟨i, j, rfl, rfl, c, q⟩) fun dx dy d h => by
  cases dx with
  | int i => cases dy with
    | int j => obtain ⟨c, rfl⟩ := guardD_some h; exact ⟨i, j, rfl, rfl, of_decide_eq_true (p := 0 ≤ j ∧ j ≤ 1000000 ∧ i.natAbs < 2 ^ 64) c, fun _ _ => rfl⟩
    | _ => cases h
  | _ => cases h
theorem od_shr : OpD K .v (rI (fun _ j => 0 ≤ j) fun i j => .int (i / 2 ^ j.toNat)) dShr := od_int (C := fun _ j => 0 ≤ j) (f := fun i j => .int (i / 2 ^ j.toNat)) (fun i j H Q c q => ⟨i, j, rfl, rfl, c, q⟩) fun dx dy d h => by
  cases dx with
  | int i => cases dy with
    | int j => obtain ⟨c, rfl⟩ := guardD_some h; exact ⟨i, j, rfl, rfl, of_decide_eq_true c, fun _ _ => rfl⟩
    | _ => cases h
  | _ => cases h
theorem od_band : OpD K .v (rI0 fun i j => .int (Builtin.bitAnd i j)) dBand := od_int (C := fun _ _ => True) (f := fun i j => .int (Builtin.bitAnd i j)) (fun i j H Q _ q => ⟨i, j, rfl, rfl, q⟩) fun dx dy d h => by
  cases dx with
  | int i => cases dy with
    | int j => cases h; exact ⟨i, j, rfl, rfl, trivial, fun _ _ => rfl⟩
    | _ => cases h
  | _ => cases h
theorem od_bor : OpD K .v (rI0 fun i j => .int (Builtin.bitOr i j)) dBor := od_int (C := fun _ _ => True) (f := fun i j => .int (Builtin.bitOr i j)) (fun i j H Q _ q => ⟨i, j, rfl, rfl, q⟩) fun dx dy d h => by
  cases dx with
  | int i => cases dy with
    | int j => cases h; exact ⟨i, j, rfl, rfl, trivial, fun _ _ => rfl⟩
    | _ => cases h
  | _ => cases h
theorem reps_intsO {A : AS} {H : Hp} : ∀ {xs : List D} {vs : List V} {ns : List Int}, Reps K A H xs vs → intsOf xs = some ns → vs = ns.map V.int
  | [], vs, ns, h, e => by cases e; exact h
  | x :: xs, vs, ns, ⟨v, r, e1, h, t⟩, e => by
    cases x with
    | int b =>
      change (intsOf xs).map (b :: ·) = some ns at e
      cases hb : intsOf xs with
      | none => rw [hb] at e; cases e
      | some cs =>
        rw [hb] at e
        cases e
        rw [e1, List.map_cons, ← reps_intsO t hb, show v = V.int b from h]
    | _ => cases e
theorem cd_sum : CallD K .v (rSum K) gSum := by
  intro W A σ H env P vs ds d Q k rs hg q
  match ds, rs, hg with
  | [d0], rs, hg =>
    obtain ⟨v, rfl, r⟩ := one_arg rs
    cases d0 with
    | list xs =>
      change (intsOf xs).map _ = some d at hg
      cases hb : intsOf xs with
      | none => rw [hb] at hg; cases hg
      | some ns =>
        rw [hb] at hg
        cases hg
        obtain ⟨a, vs, rfl, l, r⟩ := r
        rw [reps_intsO r hb] at l
        exact ⟨a, ns, rfl, l.sq, q _ H (Same.refl H) rfl⟩
    | _ => cases hg
  | [], _, hg => cases hg
  | _ :: _ :: _, _, hg => simp [gSum] at hg
end

/-! ### calls with borrowed lists, whose answer holds no list -/
mutual
def noL : D → Bool
  | .list _ => false
  | .dict _ => false
  | .tuple ds => noLs ds
  | _ => true
def noLs : List D → Bool
  | [] => true
  | d :: ds => noL d && noLs ds
end
mutual
theorem noL_rep {K : PySem.W.Frag} {A A' : AS} {H : Hp} (h : ∀ b, A b → A' b ∨ ∃ vs, H b = some (.lst vs)) : ∀ (d : D) (v : V), noL d = true → Rep K A' H d v → Rep K A H d v
  | .none, _, _, r => r
  | .bool _, _, _, r => r
  | .int _, _, _, r => r
  | .str _, _, _, r => r
  | .list _, _, f, _ => nomatch f
  | .dict _, _, f, _ => nomatch f
  | .tuple ds, _, f, ⟨a, vs, e, l, q⟩ => ⟨a, vs, e, l.elim (fun ⟨o, h1, h2, h3⟩ => .inl ⟨o, h1, h2, fun z => (h a z).elim h3 fun ⟨us, hu⟩ => by rw [h1] at hu; cases hu⟩) .inr, noLs_rep h ds vs f q⟩
theorem noLs_rep {K : PySem.W.Frag} {A A' : AS} {H : Hp} (h : ∀ b, A b → A' b ∨ ∃ vs, H b = some (.lst vs)) : ∀ (ds : List D) (vs : List V), noLs ds = true → Reps K A' H ds vs → Reps K A H ds vs
  | [], _, _, r => r
  | d :: ds, _, f, ⟨v, r, e, h1, h2⟩ => ⟨v, r, e, noL_rep h d v (Bool.and_eq_true _ _ ▸ f).1 h1, noLs_rep h ds r (Bool.and_eq_true _ _ ▸ f).2 h2⟩
end
def les (A : AS) (H : Hp) (us : List V) : AS := fun b => A b ∧ (V.ref b ∈ us → ¬ ∃ ws, H b = some (.lst ws))
theorem repB_lessL {K : PySem.W.Frag} {pa : PL} {A : AS} {H : Hp} : ∀ {ds : List D} {vs : List V} (us : List V), RepsB K pa A H ds vs → (∀ v ∈ vs, v ∈ us) → ArgsOk K pa.bare (les A H us) H (ds.map .v) vs
  | [], _, _, h, _ => h
  | d :: ds, _, us, ⟨v, r, e, h, t⟩, hm => by
    subst e
    have st : Stay A (les A H us) H H := fun b u e _ n => ⟨e, fun z => n z.1⟩
    refine ⟨v, r, rfl, ?_, repB_lessL us t fun x hx => hm x (List.mem_cons_of_mem _ hx)⟩
    cases d with
    | list es =>
      obtain ⟨a, ws, rfl, l, q⟩ := h
      exact ⟨a, ws, rfl, ⟨l.1, fun z => z.2 (hm _ List.mem_cons_self) ⟨_, l.1⟩⟩, Reps.mono st _ _ q⟩
    | none | bool _ | int _ | str _ | tuple _ | dict _ => exact Rep.mono st _ _ h
def dCallT (n : Nat) (den : List SV → M D) (g : Env → M (List D)) : Env → M D := fun env => bnd (g env) fun ds => fun P => if ds.length = n then (match den (ds.map .v) P with
  | .ok d _ => if noL d then .ok d P else .no
  | .ex c _ => .ex c P
  | .no => .no) else .no
section
variable {gd : Bool} {Ex : Str → Hp → Prop} {X : Cx} {k : Nat} {f : Addr} {fd : FuncData} {ps : List Str} {x : Str} {p pos : Pos} {e : Expr} {es : List Expr} {ec : EC} {den : List SV → M D} {g : Env → M (List D)} {n : Nat}
theorem x_callT (F : FnG X.prog X.w X.K X.mg X.base gd k f fd ps (spG X.K ec .v n den)) (hr : Room k X.A) (hgd : gd = true → X.A.guards = some []) (hm : X.mg x = some (.ref f)) (hk : PySem.W.keepIn X.K (.ref f) = true) (hb : Binds X.K fd ps []) (hx : Passes (L2.CX X.prog X.w) X (xk ec Ex))
    (ha : XB Ex X (e :: es) g) (hg : Gl X x := by rfl) (hdb : (x == ("__debug__" : Str)) = false := by decide) (he : starEach (e :: es) X.env = (false, eval e X.env) :: starEach es X.env := by rfl) (hpl : (backTo pos (starEach es X.env)).any (·.1) = false := by rfl) :
    XE Ex X .v (.Call (.Name x p) (e :: es) [] pos) (dCallT n den g) := by
  obtain ⟨t, ht, q⟩ := ha
  refine ⟨_, pe_callG F hr hgd hm hk hb hx ht hg hdb he hpl, fun W A σ H env P Q k p => ?_⟩
  refine q W A σ H env P _ k ((PostG.bnd k p).mono ?_)
  rintro ds _ H1 _ _ ⟨P1, e1, p1, k1, post⟩ vs rs
  show spG X.K ec .v n den (vs ++ []) H1 Q (xk ec Ex)
  rw [List.append_nil]
  by_cases hn : ds.length = n
  · rw [if_pos hn] at post
    refine ⟨by rw [repsB_length rs]; exact hn, W.pa.bare, les A H1 vs, ds.map .v, P1, fun b hb => k1.trk b hb.1, (fun p c z => nomatch z), ⟨(fun p c z => nomatch z), k1.pen.2⟩, repB_lessL vs rs fun _ h => h, ?_⟩
    cases hd : den (ds.map .v) P1 with
    | ok d P' =>
      rw [hd] at post
      dsimp only at post
      by_cases hp : noL d = true
      · rw [if_pos hp] at post
        refine fun H' e pk v r => post H' (HExt.none e) (HExt.penOk e k1.pen pk) (e1.trans (HExt.none e)) v (noL_rep (fun b hb => ?_) d v hp r)
        by_cases hz : V.ref b ∈ vs ∧ ∃ ws, H1 b = some (.lst ws)
        · obtain ⟨_, ws, hw⟩ := hz
          exact .inr ⟨ws, e.at hw (fun ⟨_, z⟩ => nomatch z)⟩
        · exact .inl ⟨hb, fun m z => hz ⟨m, z⟩⟩
      · rw [if_neg hp] at post; exact post.elim
    | ex c P' =>
      rw [hd] at post
      exact fun H' e pk => ⟨c, rfl, rfl, post H' (HExt.none e) (HExt.penOk e k1.pen pk)⟩
    | no => rw [hd] at post; exact post.elim
  · rw [if_neg hn] at post; exact post.elim
end

/-! ### == and !=: texts of all signs; a tuple with an empty one, whatever it holds -/
def dEqA : D → D → Option D
  | .str a, .str b => some (.bool (decide (a = b)))
  | .tuple xs, .tuple ys => if xs.isEmpty || ys.isEmpty then some (.bool (xs.isEmpty && ys.isEmpty)) else dEq (.tuple xs) (.tuple ys)
  | x, y => dEq x y
def dNeA : D → D → Option D
  | .str a, .str b => some (.bool (!decide (a = b)))
  | x, y => dNe x y
section
variable {X : Cx} {K : PySem.W.Frag}
def rEqT (K : PySem.W.Frag) : R2 := fun x y H Q => rEqD K x y H Q ∨ (rEq x y H Q ∨ ∃ a b xs ys, x = .ref a ∧ y = .ref b ∧ SqT K H a xs ∧ SqT K H b ys ∧ (xs = [] ∨ ys = []) ∧ Q (.bl (xs.isEmpty && ys.isEmpty)) H)
theorem op_eqE (hu : X.A.units + 64 < cLine) : OpR X (compareOp .Eq) (fun x y H Q => ∃ a b xs ys, x = .ref a ∧ y = .ref b ∧ SqT X.K H a xs ∧ SqT X.K H b ys ∧ (xs = [] ∨ ys = []) ∧ Q (.bl (xs.isEmpty && ys.isEmpty)) H) := by
  intro pins s σ H x y; intro v u Q I rx ry h
  obtain ⟨a, b, xs, ys, rfl, rfl, h1, h2, he, q⟩ := h
  cases rx
  cases ry
  obtain ⟨us, r1, t1, _⟩ := I.tuple h1
  obtain ⟨ws, r2, t2, _⟩ := I.tuple h2
  have l1 := r1.length
  have l2 := r2.length
  have ho : us.toArray.size = 0 ∨ ws.toArray.size = 0 := by
    rcases he with rfl | rfl
    · exact .inl (by rw [List.size_toArray, ← l1]; rfl)
    · exact .inr (by rw [List.size_toArray, ← l2]; rfl)
  have k := SeqAt.RcAt.tuples (A := X.A) (s := s) (e := fun _ => true) t1 t2 (by omega) (fun j q1 q2 => by omega) X.prog X.w X.xe (EP X pins σ Q)
  have ev : ((List.range (min us.toArray.size ws.toArray.size)).all (fun _ => true) && us.toArray.size == ws.toArray.size) = (xs.isEmpty && ys.isEmpty) := by
    have e1 : ((List.range (min us.toArray.size ws.toArray.size)).all fun _ => true) = true := by simp
    rw [e1, Bool.true_and, List.size_toArray, List.size_toArray, ← l1, ← l2]
    rcases he with rfl | rfl
    · cases ys <;> rfl
    · cases xs <;> rfl
  rw [ev] at k
  exact k ⟨.bl (xs.isEmpty && ys.isEmpty), H, I, rfl, q⟩
theorem or_eqA (hu : X.A.units + 64 < cLine) : OpR X (compareOp .Eq) (rEqT X.K) := (op_eqD hu).or (op_eq.or (op_eqE hu))
def rNeT (K : PySem.W.Frag) : R2 := fun x y H Q => rNeD K x y H Q ∨ rNe x y H Q
theorem or_neA (hu : X.A.units + 64 < cLine) : OpR X (compareOp .NotEq) (rNeT X.K) := (op_neD hu).or op_ne
theorem od_eqA : OpD K .v (rEqT K) dEqA := by
  intro W A σ H env P x y dx dy d Q k rx ry hg q
  have old : dEq dx dy = some d → rEqT K x y H Q := fun h => .inl (od_eq W A σ H env P x y dx dy d Q k rx ry h q)
  cases dx with
  | str a =>
    cases dy with
    | str b =>
      cases hg
      cases (show x = .str a from rx)
      cases (show y = .str b from ry)
      refine .inr (.inl ⟨rfl, ?_⟩)
      have e : decide (V.str a = V.str b) = decide (a = b) := decide_eq_decide.mpr ⟨fun z => V.str.inj z, fun z => by rw [z]⟩
      rw [e]
      exact q _ H (Same.refl H) rfl
    | _ => exact old hg
  | tuple xs =>
    cases dy with
    | tuple ys =>
      change (if (xs.isEmpty || ys.isEmpty) = true then some (PyData.bool (xs.isEmpty && ys.isEmpty)) else dEq (.tuple xs) (.tuple ys)) = some d at hg
      by_cases he : (xs.isEmpty || ys.isEmpty) = true
      · rw [if_pos he] at hg
        cases hg
        obtain ⟨a, vs, rfl, l, r⟩ := rx
        obtain ⟨b, us, rfl, l2, r2⟩ := ry
        have e1 : vs.isEmpty = xs.isEmpty := by
          have := r.length
          cases vs <;> cases xs <;> first | rfl | simp at this
        have e2 : us.isEmpty = ys.isEmpty := by
          have := r2.length
          cases us <;> cases ys <;> first | rfl | simp at this
        refine .inr (.inr ⟨a, b, vs, us, rfl, rfl, l.sq, l2.sq, ?_, ?_⟩)
        · rw [← e1, ← e2, Bool.or_eq_true, List.isEmpty_iff, List.isEmpty_iff] at he
          exact he
        · rw [e1, e2]
          exact q _ H (Same.refl H) rfl
      · rw [if_neg he] at hg
        exact old hg
    | _ => exact old hg
  | _ => exact old hg
theorem od_neA : OpD K .v (rNeT K) dNeA := by
  intro W A σ H env P x y dx dy d Q k rx ry hg q
  have old : dNe dx dy = some d → rNeT K x y H Q := fun h => .inl (od_ne W A σ H env P x y dx dy d Q k rx ry h q)
  cases dx with
  | str a =>
    cases dy with
    | str b =>
      cases hg
      cases (show x = .str a from rx)
      cases (show y = .str b from ry)
      refine .inr ⟨rfl, ?_⟩
      have e : decide (V.str a = V.str b) = decide (a = b) := decide_eq_decide.mpr ⟨fun z => V.str.inj z, fun z => by rw [z]⟩
      rw [e]
      exact q _ H (Same.refl H) rfl
    | _ => exact old hg
  | _ => exact old hg
end
end Vl
end
section
set_option autoImplicit false
set_option maxRecDepth 100000
/-! V26: the def law: its promise, its first row, its call at the row's end. -/
namespace Vl
open PySem PySem.Spec PyProof.Rows L2 LamX

/-- the script, and nothing that is known of the world but the tables -/
def spL (K : PySem.W.Frag) (tb : List (Addr × Str)) : Sp := fun vs H Q _ => ∃ (a : Addr) (ns : List Int), vs = [.ref a] ∧ ns.length ≤ 63 ∧ (∀ z ∈ ns, Builtin.Int.intBits z ≤ 1048576) ∧ ScrOk K (fun _ => False) H (.ref a) ns ∧ Tabs tb H ∧ ∀ H', Q (.bl true) H'
/-- what the pen of the first row is -/
theorem open_rep {K : PySem.W.Frag} {A : AS} {H : Hp} {cs : List Int} {v : V} (r : Rep K A H (.list [.list (cs.map PyData.int), .int 0, .int 0]) v) : ∃ p c, v = .ref p ∧ H p = some (.lst [.ref c, .int 0, .int 0]) ∧ H c = some (.lst (cs.map V.int)) := by
  obtain ⟨p, ws, e, lp, v1, t1, e1, r1, v2, t2, e2, r2, v3, t3, e3, r3, e4⟩ := r
  obtain ⟨c, us, ec, lc, rc⟩ := r1
  have e4 : t3 = [] := e4
  have r2 : v2 = .int 0 := r2
  have r3 : v3 = .int 0 := r3
  subst e4 e3 r3 e2 r2 e1 ec
  refine ⟨p, c, e, lp.1, ?_⟩
  have h : ∀ (xs : List Int) (ys : List V), Reps K A H (xs.map PyData.int) ys → ys = xs.map V.int := by
    intro xs
    induction xs with
    | nil => intro ys h; exact h
    | cons x xs ih =>
      intro ys h
      obtain ⟨y, t, e, h1, h2⟩ := h
      rw [e, ih t h2, show y = V.int x from h1]
      rfl
  rw [← h cs us rc]
  exact lc.1

section
variable {P : Program} {w : World} {K : PySem.W.Frag} {mg : Str → Option Value} {base : Heap} {ec : EC}
theorem law_fn {x qual : Str} {st : Stmt} {f fo : Addr} {fdo : FuncData} {N : List Str} {k ko : Nat} {body : Vl.Env → M Fl} {rest : List Stmt} {dO : List SV → M D} {pos1 pos2 pos3 pos4 pos5 : Pos} {kV doc pm cdv ct oc : Value} {an od : Option Addr} {osl : Array (Option Value)} {tb : List (Addr × Str)}
    (lk : K.lookup f = some ⟨oc, od, .func (PySem.W.fnOf x qual (defArgs st) (defBody st) (defScope st) .none kV doc pm an cdv ct), osl⟩) (hcd : PySem.W.codeIn K cdv qual = true) (S : FnScope N ["script"] (defScope st)) (hN0 : N[0]? = some ("script" : Str)) (hN1 : N[1]? = some ("pen" : Str)) (hN2 : 2 ≤ N.length) (hv0 : Vis (defScope st) "script") (hl1 : Loc (defScope st) "pen")
    (hbody : defBody st = .Assign [.Name "pen" pos1] (.Call (.Name "_law_open" pos2) [.Name "script" pos3] [] pos5) pos4 :: rest)
    (hsw : ∀ L : Addr, swapsWith (.Call (.Name "_law_open" pos2) [.Name "script" pos3] [] pos5) (some (.Name "pen" pos1)) pos4.line (envOfC qual (defScope st) L f cdv) = pure false)
    (hko : ko ≤ k) (O : FnG P w K mg base false ko fo fdo ["script"] (spG K ec .v 1 dO)) (Og : (defScope st).names.lookup ("_law_open" : Str) = some NameKind.globalImplicit) (Om : mg "_law_open" = some (.ref fo)) (Ok : PySem.W.keepIn K (.ref fo) = true) (Ob : L2.Binds K fdo ["script"] [])
    (hb : ∀ (A : Around) (outer : List PySem.Env) (s : Shared) (H : Hp) (E : XK), Room k (A.deeper (envOfC qual (defScope st) s.heap.objs.size f cdv)) → A.guards = some [] → XSs (exOf ec E) .v (cxOf (L2.CX P w) P w K mg base N qual (defScope st) f cdv A outer s H E) rest body)
    (hrun : ∀ ns : List Int, ns.length ≤ 63 → (∀ z ∈ ns, Builtin.Int.intBits z ≤ 1048576) → ∃ (cs : List Int) (P1 P2 : Pen), dO [.scr ns] ⟨[], 0, 0, tb⟩ = .ok (.list [.list (cs.map PyData.int), .int 0, .int 0]) P1 ∧ body (.scr ns :: .pen :: List.replicate (N.length - 2) .un) ⟨cs, 0, 0, tb⟩ = .ok (.rt (.bool true)) P2) :
    FnG P w K mg base true (k + 1) f (PySem.W.fnOf x qual (defArgs st) (defBody st) (defScope st) .none kV doc pm an cdv ct) ["script"] (spL K tb) := by
  refine ⟨fun vs H Q E h => by obtain ⟨a, ns, rfl, _⟩ := h; rfl, fun A outer s H args us vs Q E hr hg e0 hbd rv hsp => ?_⟩
  obtain ⟨a, ns, rfl, hl, hbits, hscr, htb, q⟩ := hsp
  refine LamX.run_ofS lk hcd S hr e0 hbd rv rfl fun hr' => ?_
  obtain ⟨t, ht, qt⟩ := hb A outer s H E hr' (hg rfl)
  obtain ⟨cs, P1, P2, h1, h2⟩ := hrun ns hl hbits
  rw [hbody]
  refine ⟨_, pss_cons (ps_set (i := 1) S.nd hN1 hl1 (pe_callG (X := cxOf (L2.CX P w) P w K mg base N qual (defScope st) f cdv A outer s H E) (E := xk ec Ex0) O (hr'.mono hko) (fun z => nomatch z) Om Ok Ob passX0 (pa_cons (pe_var (i := 0) hN0 hv0) pa_nil) Og) (hsw _) (.inl rfl)) ht, ?_⟩
  have h0 : (L2.start N [V.ref a])[0]? = some (some (V.ref a)) := rfl
  refine ⟨.ref a, h0, ?_⟩
  refine ⟨rfl, ⟨none, tb⟩, (fun _ => False), [.scr ns], ⟨[], 0, 0, tb⟩, (fun _ z => z.elim), (fun _ _ z => nomatch z), ⟨(fun _ _ z => nomatch z), htb, rfl⟩, ⟨_, _, rfl, hscr, rfl⟩, ?_⟩
  rw [h1]
  intro H' e p v r
  obtain ⟨pp, c, rfl, hp, hc⟩ := open_rep r
  have hne : pp ≠ c := fun z => by
    subst z
    rw [hp] at hc
    cases cs with
    | nil => cases hc
    | cons x xs => cases hc
  have hscr' : ScrOk K (fun b => b = pp ∨ b = c) H' (.ref a) ns := by
    obtain ⟨b, eb, ⟨⟨ob, h3⟩, _⟩ | h3⟩ := hscr
    · cases eb
      have h4 := e.at h3 (fun ⟨_, z⟩ => nomatch z) nt_frz
      refine ⟨a, rfl, .inl ⟨⟨ob, h4⟩, fun z => ?_⟩⟩
      rcases z with z | z
      · rw [z, hp] at h4; cases h4
      · rw [z, hc] at h4; cases h4
    · exact ⟨b, eb, .inr h3⟩
  have trk : ∀ b, (b = pp ∨ b = c) → ∃ o, H' b = some o ∧ Nt o := fun b z => z.elim (fun z => ⟨_, z ▸ hp, nt_lst⟩) fun z => ⟨_, z ▸ hc, nt_lst⟩
  obtain ⟨m, hm⟩ : ∃ m, N.length = m + 2 := ⟨N.length - 2, by omega⟩
  have hσ : (L2.start N [V.ref a]).set 1 (some (V.ref pp)) = some (V.ref a) :: some (V.ref pp) :: List.replicate m none := by
    unfold L2.start
    rw [hm]
    rfl
  have henv : (SV.scr ns :: SV.pen :: List.replicate (N.length - 2) SV.un) = SV.scr ns :: SV.pen :: List.replicate m SV.un := by rw [hm]; rfl
  have noown : ∀ (i : Nat) (ds : List D), (SV.scr ns :: SV.pen :: List.replicate m SV.un)[i]? = some (.own ds) → False := fun i ds h => by
    match i, h with
    | 0, h => cases h
    | 1, h => cases h
    | i + 2, h =>
      have h : (List.replicate m SV.un)[i]? = some (.own ds) := h
      obtain ⟨_, z⟩ := List.getElem?_eq_some_iff.mp h
      rw [List.getElem_replicate] at z
      cases z
  have k1 : EOk K ⟨⟨some (pp, c), tb⟩, H', (fun b => b = pp ∨ b = c), []⟩ (fun b => b = pp ∨ b = c) ((L2.start N [V.ref a]).set 1 (some (V.ref pp))) H' (SV.scr ns :: SV.pen :: List.replicate (N.length - 2) SV.un) ⟨cs, 0, 0, tb⟩ := by
    rw [hσ, henv]
    refine ⟨by simp, fun i o sl g1 g2 => ?_, fun i j ds es b _ g1 => (noown i ds g1).elim, fun i ds b g1 => (noown i ds g1).elim, fun _ z => z, trk, trk, fun p' c' z => ?_, ⟨fun p' c' z => ?_, p.2.1, rfl⟩, HExt.refl _ _, fun g hg => nomatch hg⟩
    · match i, g1, g2 with
      | 0, g1, g2 => cases g1; cases g2; exact ⟨_, rfl, hscr'⟩
      | 1, g1, g2 => cases g1; cases g2; exact ⟨pp, c, rfl, rfl⟩
      | i + 2, g1, g2 =>
        have g2 : (List.replicate m SV.un)[i]? = some sl := g2
        obtain ⟨_, z⟩ := List.getElem?_eq_some_iff.mp g2
        rw [List.getElem_replicate] at z
        subst z
        trivial
    · cases z
      exact ⟨.inl rfl, .inr rfl⟩
    · cases z
      exact ⟨hne, hp, hc⟩
  refine qt _ _ _ _ _ _ _ k1 ?_
  rw [h2]
  intro v H2 _ _ r2
  rw [show v = .bl true from r2]
  exact q H2
/-- the first abstract heap: the script where it is no object of the module, and the tables -/
def hp0 (a : Addr) (fz : Option HO) (ts : List Addr) : Hp := fun b => if b = a then fz else if b ∈ ts then some (.tbl #[]) else none
theorem law_callG {mb : Str → Option Value} {k : Nat} {fa a : Addr} {cs : List (Addr × Addr)} {tb : List (Addr × Str)} {fd : FuncData} {x : Str} {s₁ : Shared} {vs : List Value} {ns : List Int}
    (KX : K.In s₁.heap) (nsG : s₁.heap.Ns mainGlobals mg) (nsB : s₁.heap.Ns builtinsNs mb) (boot : ∀ y : Str, y ≠ "__name__" → mb y = bootBuiltins y) (nolim : s₁.heap.NoLimit) (nog : s₁.gens = #[])
    (emp : ∀ p ∈ cs, s₁.heap.get? p.2 = some { cls := .none, data := .fields #[] }) (outK : ∀ p ∈ cs, K.lookup p.2 = none) (code : ∀ p ∈ cs, PySem.W.CodeHd s₁.heap p.1 p.2)
    (main : ∃ (bm : Addr) (ob : Obj), mg "__builtins__" = some (.ref bm) ∧ bm ≠ builtinsNs ∧ s₁.heap.get? bm = some ob ∧ ob.cls = .type "module" ∧ ob.dict = some builtinsNs ∧ ob.data = .plain)
    (scr : s₁.heap.get? a = some { cls := .type "list", data := .seq vs.toArray }) (whole : IntsAre vs ns) (few : ns.length ≤ 63) (bits : ∀ z ∈ ns, Builtin.Int.intBits z ≤ 1048576) (room : Room k callerA)
    (htb : ∀ p ∈ tb, p.1 ∈ cs.map (·.2))
    (F : ∀ base : Heap, K.In base → base.Ns mainGlobals mg → (∀ p ∈ cs, TabB base mg p.1 p.2) → FnG P w K mg base true k fa fd [x] (spL K tb)) (bind : ∀ (s : Shared) (u : Value), BindsTo s fd ⟨[u], []⟩ [(x, u)]) :
    codeAny (model P w) callerA (.call (.ref fa) (⟨[.ref a], []⟩)) (fun r s' => r = .ok (.ret (.bool true)) ∧ OldK s₁.heap s'.heap ∧ s'.os = s₁.os ∧ AllBare s'.gens) s₁ := by
  have vals : Vals (ns.map V.int) vs := vals_ints whole
  have cnt : vs.length = ns.length := whole.length
  let ts : List Addr := cs.map (·.2)
  have tsE : ∀ b ∈ ts, s₁.heap.get? b = some { cls := .none, data := .fields #[] } := fun b hb => by
    obtain ⟨p, hp, rfl⟩ := List.mem_map.mp hb
    exact emp p hp
  have tsK : ∀ b ∈ ts, K.lookup b = none := fun b hb => by
    obtain ⟨p, hp, rfl⟩ := List.mem_map.mp hb
    exact outK p hp
  have na : ¬ a ∈ ts := fun z => by
    have e := (tsE a z).symm.trans scr
    cases congrArg Obj.data (Option.some.inj e)
  let lo : Obj := { cls := .type "list", data := .seq vs.toArray }
  let fz : Option HO := match K.lookup a with
    | some _ => none
    | none => some (.frz lo (.lst (ns.map V.int)))
  have fzc : (fz = none ∧ K.lookup a = some lo) ∨ (fz = some (.frz lo (.lst (ns.map V.int))) ∧ K.lookup a = none) := by
    cases hk : K.lookup a with
    | some o =>
      have e := (KX a o hk).symm.trans scr
      refine .inl ⟨by simp only [fz, hk], ?_⟩
      rw [Option.some.inj e]
    | none => exact .inr ⟨by simp only [fz, hk], rfl⟩
  let H := hp0 a fz ts
  have Ha : H a = fz := if_pos rfl
  have Ht : ∀ b ∈ ts, H b = some (.tbl #[]) := fun b hb => by
    have n : ¬ b = a := fun z => na (z ▸ hb)
    exact (if_neg n).trans (if_pos hb)
  have Ho : ∀ b, ¬ b = a → ¬ b ∈ ts → H b = none := fun b n1 n2 => (if_neg n1).trans (if_neg n2)
  -- what is tracked is the list or an empty table
  have kinds : ∀ {b : Addr} {o : Obj}, s₁.heap.get? b = some o → H b ≠ none → o = lo ∨ o = { cls := .none, data := .fields #[] } := fun {b o} e n => by
    by_cases h1 : b = a
    · subst h1
      exact .inl (Option.some.inj (e.symm.trans scr))
    · by_cases h2 : b ∈ ts
      · exact .inr (Option.some.inj (e.symm.trans (tsE b h2)))
      · exact absurd (Ho b h1 h2) n
  have low : ∀ {b : Addr} {o : Obj}, s₁.heap.get? b = some o → (o ≠ lo) → (o ≠ { cls := .none, data := .fields #[] }) → (hidT s₁.heap H).get? b = some o := fun {b o} e n1 n2 => by
    refine hidT_get e ?_
    cases q : H b with
    | none => rfl
    | some u => exact ((kinds e (by rw [q]; exact fun z => nomatch z)).elim n1 n2).elim
  have lowD : ∀ {b : Addr} {o : Obj} {es : Array DictEntry} {n : Nat}, s₁.heap.get? b = some o → o.data = .dict es n → (hidT s₁.heap H).get? b = some o := fun {b o es n} e d =>
    low e (fun z => by rw [z] at d; cases d) (fun z => by rw [z] at d; cases d)
  have lowN : ∀ {b : Addr} {m : Str → Option Value}, s₁.heap.Ns b m → (hidT s₁.heap H).Ns b m := fun {b m} z => by
    obtain ⟨o, es, n, e, d, r⟩ := z
    exact ⟨o, es, n, lowD e d, d, r⟩
  have KB : K.In (hidT s₁.heap H) := fun b o e => by
    refine hidT_get (KX b o e) ?_
    by_cases h1 : b = a
    · subst h1
      rcases fzc with ⟨z, _⟩ | ⟨_, z⟩
      · rw [Ha, z]
      · rw [z] at e; cases e
    · by_cases h2 : b ∈ ts
      · rw [tsK b h2] at e; cases e
      · exact Ho b h1 h2
  have MB : L2.Mod K mg (hidT s₁.heap H) := by
    obtain ⟨mc, g1, g2⟩ := nolim
    exact ⟨KB, lowN nsG, ⟨mb, lowN nsB, boot⟩, mc, lowN g1, g2⟩
  have TB : (∀ p ∈ cs, TabB (hidT s₁.heap H) mg p.1 p.2) := fun p hp => by
    have pE := emp p hp
    have gP : mainGlobals ≠ p.2 := fun z => by
      obtain ⟨o, es, n, e, d, _⟩ := nsG
      rw [z] at e
      have e' := Option.some.inj (e.symm.trans pE)
      rw [e'] at d
      cases d
    refine ⟨?_, ?_, gP⟩
    · obtain ⟨o, us, c3, c4, c5, c6, c7, c8, c9, e1, e2, e3, rest⟩ := code p hp
      refine ⟨o, us, c3, c4, c5, c6, c7, c8, c9, low e1 (fun z => ?_) (fun z => ?_), e2, e3, rest⟩
      · rw [z] at e3; cases e3
      · rw [z] at e2; cases e2
    · obtain ⟨bm, ob, b1, b2, b3, b4, b5, b6⟩ := main
      refine ⟨bm, ob, b1, b2, fun z => ?_, fun z => ?_, low b3 (fun z => ?_) (fun z => ?_), b4, b5, b6⟩
      · obtain ⟨o, es, n, e, d, _⟩ := nsG
        rw [z] at b3
        have e' := Option.some.inj (e.symm.trans b3)
        rw [e', b6] at d
        cases d
      · rw [z] at b3
        have e' := Option.some.inj (b3.symm.trans pE)
        rw [e'] at b6
        cases b6
      · rw [z] at b6; cases b6
      · rw [z] at b6; cases b6
  have held : HOk P w H s₁.heap := fun b u e => by
    by_cases h1 : b = a
    · subst h1
      rw [Ha] at e
      rcases fzc with ⟨z, _⟩ | ⟨z, _⟩
      · rw [z] at e; cases e
      · rw [z] at e
        cases e
        exact ⟨scr, by rw [List.length_map]; exact Nat.le_trans few (by rw [sizeLine_eq]; decide), vs, _, vals, scr⟩
    · by_cases h2 : b ∈ ts
      · rw [Ht b h2] at e
        cases e
        exact tsE b h2
      · rw [Ho b h1 h2] at e; cases e
  have env0 : Env0 P w K mg (hidT s₁.heap H) callerA [] s₁ H := ⟨rfl, MB, fun b o e => of_hidT e, Nat.le_of_eq (hidT_size _ _), trivial, fun b hb => (List.not_mem_nil hb).elim, held, .of_eq nog⟩
  have tabs : Tabs tb H := fun p hp => ⟨#[], Ht _ (htb p hp), trivial, fun pos cv z => by simp [codeAmong] at z⟩
  have scrOk : ScrOk K (fun _ => False) H (.ref a) ns := by
    refine ⟨a, rfl, ?_⟩
    rcases fzc with ⟨_, z⟩ | ⟨z, _⟩
    · refine .inr ⟨lo, vs.toArray, _, z, rfl, rfl, rfl, ?_, by simpa using vals⟩
      rw [List.size_toArray, cnt, sizeLine_eq]
      omega
    · exact .inl ⟨⟨lo, Ha.trans z⟩, fun z => z⟩
  refine codeAny_mono ((F _ KB (lowN nsG) TB).run callerA [] s₁ H ⟨[.ref a], []⟩ [.ref a] [.ref a] (fun v _ => v = .bl true) (fun _ _ _ => False) room (fun _ => rfl) env0 (bind s₁ (.ref a)) (.cons rfl .nil) ⟨a, ns, rfl, few, bits, scrOk, tabs, fun _ => rfl⟩) fun r s' h => ?_
  match r, h with
  | .error e, h =>
    obtain ⟨_, _, _, _, _, _, _, _, _, _, _, _, z⟩ := (h)
    exact z.elim
  | .ok .next, h => exact h.elim
  | .ok .brk, h => exact h.elim
  | .ok .cont, h => exact h.elim
  | .ok (.ret u), h =>
    obtain ⟨v, H', sameOs, bare', un, held', rv, rfl⟩ := h
    cases rv
    have stays : ∀ b o, ¬ b ∈ ts → s₁.heap.get? b = some o → s'.heap.get? b = some o := fun b o nb e => by
      by_cases h1 : b = a
      · subst h1
        rcases fzc with ⟨z, _⟩ | ⟨z, _⟩
        · exact un.keep b o e (Ha.trans z) (fun m => (List.not_mem_nil m).elim) (fun m => (List.not_mem_nil m).elim)
        · have l2 := un.frzs b lo _ (Ha.trans z)
          obtain ⟨g1, _⟩ := held' b _ l2
          rw [scr] at e
          cases e
          exact g1
      · exact un.keep b o e (Ho b h1 nb) (fun m => (List.not_mem_nil m).elim) (fun m => (List.not_mem_nil m).elim)
    have grows : ∀ b ∈ ts, ∃ more : Array Value, s'.heap.get? b = some { cls := .none, data := .fields more } := fun b hb => by
      obtain ⟨more, z⟩ := un.tbls b #[] (Ht b hb)
      exact ⟨_, held' b _ z⟩
    refine ⟨rfl, ⟨fun b o e => ?_, fun b o e => ?_⟩, sameOs, bare'⟩
    · by_cases hb : b ∈ ts
      · obtain ⟨more, hm⟩ := grows b hb
        obtain ⟨p, hp, rfl⟩ := List.mem_map.mp hb
        have e' := Option.some.inj (e.symm.trans (emp p hp))
        subst e'
        exact .inr (.inl ⟨((code p hp).tab (emp p hp)).isCodeTable, rfl, #[], more, rfl, by rw [Array.empty_append]; exact hm⟩)
      · exact .inl (stays b o hb e)
    · by_cases hb : b ∈ ts
      · obtain ⟨more, hm⟩ := grows b hb
        exact ⟨_, hm⟩
      · exact ⟨o, stays b o hb e⟩
end
end Vl
end
section
set_option autoImplicit false
set_option maxRecDepth 100000
/-! V27: defs whose code object is known; the word of a lambda's error, in short. -/
namespace Vl
open PySem PySem.Spec L2 LamX

section
variable {P : Program} {w : World} {K : PySem.W.Frag} {mg : Str → Option Value} {base : Heap} {ec : EC}
/-- a def with lambdas: its code object is at c, that one's table at P -/
structure LamT (K : PySem.W.Frag) (mg : Str → Option Value) (x : Str) (st : Stmt) (ps : List Str) where
  f : Addr
  c : Addr
  P : Addr
  oc : Value
  kV : Value
  doc : Value
  pm : Value
  ct : Value
  od : Option Addr
  an : Option Addr
  osl : Array (Option Value)
  lk : K.lookup f = some ⟨oc, od, .func (PySem.W.fnOf x x (defArgs st) (defBody st) (defScope st) .none kV doc pm an (.ref c) ct), osl⟩
  hcd : PySem.W.codeIn K (.ref c) x = true
  B : L2.Binds K (PySem.W.fnOf x x (defArgs st) (defBody st) (defScope st) .none kV doc pm an (.ref c) ct) ps []
  G : mg x = some (.ref f)
  Kp : PySem.W.keepIn K (.ref f) = true
  nK : K.lookup P = none
abbrev LamT.fd {x : Str} {st : Stmt} {ps : List Str} (L : LamT K mg x st ps) : FuncData := PySem.W.fnOf x x (defArgs st) (defBody st) (defScope st) .none L.kV L.doc L.pm L.an (.ref L.c) L.ct
/-- the rule for such a def -/
theorem fnG_ofC {gd : Bool} {x : Str} {st : Stmt} {N ps : List Str} {k : Nat} {body : Vl.Env → M Fl} (L : LamT K mg x st ps) (S : FnScope N ps (defScope st))
    (hb : ∀ (A : Around) (outer : List PySem.Env) (s : Shared) (H : Hp) (E : XK), Room k (A.deeper (PyProof.Rows.envOfC x (defScope st) s.heap.objs.size L.f (.ref L.c))) → (gd = true → A.guards = some []) →
      XSs (exOf ec E) .v (cxOf (L2.CX P w) P w K mg base N x (defScope st) L.f (.ref L.c) A outer s H E) (defBody st) body) :
    FnG P w K mg base gd (k + 1) L.f L.fd ps (spG K ec .v ps.length (denOf N.length body)) := by
  refine ⟨fun vs H Q E h => h.1, fun A outer s H args us vs Q E hr hg e0 hbd rv hsp => ?_⟩
  obtain ⟨hl, pa, A0, ss, P0, hA, hp, pk, hargs, post⟩ := hsp
  refine LamX.run_ofS L.lk L.hcd S hr e0 hbd rv hl fun hr' => ?_
  obtain ⟨t, ht, q⟩ := hb A outer s H E hr' hg
  have few : ps.length ≤ N.length := by
    have z := congrArg List.length S.pre
    rw [List.length_take] at z
    omega
  refine ⟨t, ht, q ⟨pa, H, A0, []⟩ A0 _ H _ P0 _ (EOk.entry hA hp pk hargs (by omega)) ?_⟩
  unfold denOf at post
  cases hbody : body (ss ++ List.replicate (N.length - ss.length) .un) P0 with
  | ok o P' =>
    rw [hbody] at post
    cases o with
    | nx e => exact fun A' σ' H' k' => post H' k'.base k'.pen .non rfl
    | rt d => exact fun v H' e p r => post H' e p v r
    | bk e => exact post.elim
    | ct e => exact post.elim
  | ex c P' => rw [hbody] at post; exact post
  | no => rw [hbody] at post; exact post
end
section
variable {X : Cx} {Ex1 : Str → Hp → Prop} {T : List (Addr × Str)} {x a last : Str} {g c P : Addr} {k : Nat} {st : Stmt} {fd : FuncData} {Ng : List Str} {h₀ : ExceptHandler} {hds : List ExceptHandler} {j : Nat} {p1 p2 p3 p4 p5 p6 : Pos}
  {params : Arguments} {body : Expr} {scope : Scope} {p lpos pos : Pos} {kd : Kd} {fb : Vl.Env → M D} {ec : EC} {isa : Str → Str → Bool} {cw : List (Str × Str)}
theorem x_wordT (F : Fun X.K x x st g fd) (hb : L2.Binds X.K fd [a] []) (hm : X.mg x = some (.ref g)) (hk : PySem.W.keepIn X.K (.ref g) = true) (Sg : FnScope Ng [a] (defScope st)) (hNg : Ng[0]? = some a) (hva : Vis (defScope st) a)
    (hbd : defBody st = [.Try [.Expr (.Call (.Name a p1) [] [] p2) p3] (h₀ :: hds) [] [] p4, .Return (some (.Constant (.str last) j p5)) p6]) (hh : HdW (defScope st) X.mg Ng (h₀ :: hds) (cwOf ec cw))
    (hi : ∀ c, (∃ q ∈ cw, isa c q.1 = true) → ∀ q ∈ cw, PySem.W.exmOne X.K (.ref (ec c)) (.ref (ec q.1)) = some (isa c q.1))
    (TB : TabB X.base X.mg c P) (hmT : (P, X.env.qual ++ "<lambda>") ∈ T) (hu : ∀ p ∈ T, p.1 = P → p.2 = X.env.qual ++ "<lambda>") (hr : Room (k + 2) X.A)
    (hbody : ∀ (A : Around) (outer : List PySem.Env) (s : Shared) (H : Hp) (E : XK) (f c' : Addr), Room k (A.deeper (lamEnv X scope s.heap.objs.size f c')) → XE (exOf ec E) (lamCx X A outer s H E scope f c') kd body fb)
    (hcode : X.env.code = .ref c := by rfl) (L : LamS X.env.scope scope := by exact LamX.lamS_by rfl) (hdef : defaultsOf params X.env = ([], []) := by rfl)
    (hbind : ∀ (q : Str) (cl : List (Str × Addr)) (pm cv ctv : Value), bindArgs (PySem.W.kla_fn "<lambda>" q params body scope cl pm cv ctv) ⟨[], []⟩ = pure [] := by intros; rfl)
    (hg : Gl X x := by rfl) (hdb : (x == ("__debug__" : Str)) = false := by decide) (hd : (a == ("__debug__" : Str)) = false := by decide) (hcd : (a == ("__classdict__" : Str)) = false := by decide) :
    XE Ex1 X .v (.Call (.Name x p) [.Lambda params body scope lpos] [] pos) (dWord T isa cw last fb) := by
  obtain ⟨oc, od, kV, doc, pm, an, cdv, ct, osl, rfl, lk, hcg⟩ := F.ex
  refine x_word hi hg hm hk lk hcg hb Sg hNg hva ?_ TB hcode hmT hu hr L hdef hbind hbody hdb hd hcd
  rw [hbd]
  exact word_gives (X := X) hh Sg.nd fun f => by
    cases Ng with
    | nil => cases hNg
    | cons y r => rfl
end
end Vl
end
section
set_option autoImplicit false
set_option maxRecDepth 100000
/-! V28: from what the head tells to the facts of a text; the row's end. -/
namespace Vl
open PySem PySem.Spec PyProof.Rows L2

structure FnT (K : PySem.W.Frag) (mg : Str → Option Value) (x : Str) (st : Stmt) (ps : List Str) where
  f : Addr
  fd : FuncData
  F : Fun K x x st f fd
  B : L2.Binds K fd ps []
  G : mg x = some (.ref f)
  Kp : PySem.W.keepIn K (.ref f) = true
structure ExT (K : PySem.W.Frag) (mg : Str → Option Value) (x : Str) where
  C : Addr
  B : String
  newId : String
  initId : String
  bmB : List Value
  F : ExcBaseFacts B newId initId bmB
  q : PySem.W.excIn K C bmB newId = true
  G : mg x = some (.ref C)
  Kp : PySem.W.keepIn K (.ref C) = true
  h1 : PySem.W.subIn K (.ref C) (.type "BaseException") = some true
  h2 : PySem.W.typeIn K (.ref C) = some (.type "type")

section
variable {K : PySem.W.Frag} {mg : Str → Option Value} {w : World} {h : Heap}
abbrev BindsAs (x : Str) (st : Stmt) (ps : List Str) : Prop := ∀ (kV doc pm : Value) (an : Option Addr) (cdv ct : Value) (us : List Value), us.length = ps.length → bindArgs (PySem.W.fnOf x x (defArgs st) (defBody st) (defScope st) .none kV doc pm an cdv ct) ⟨us, []⟩ = pure (ps.zip us)
theorem fnT_of {x : Str} {st : Stmt} {ps : List Str} {f : Addr} (c : ∃ fd, FunD K x x (defArgs st) (defBody st) (defScope st) [] [] f fd) (G : mg x = some (.ref f)) (hb : BindsAs x st ps) : ∃ T : FnT K mg x st ps, T.f = f := by
  obtain ⟨fd, F⟩ := c
  have B := FunD.bindsN F hb
  obtain ⟨oc, od, dV, kV, doc, pm, an, cdv, ct, osl, rfl, lk, hcd, hD, hK⟩ := (F.ex)
  rcases (hD) with ⟨_, rfl⟩ | ⟨e, _⟩
  · exact ⟨⟨f, _, ⟨⟨oc, od, kV, doc, pm, an, cdv, ct, osl, rfl, lk, hcd⟩, F.kp⟩, B, G, F.kp⟩, rfl⟩
  · exact absurd rfl e
theorem lamT_of {x : Str} {st : Stmt} {ps : List Str} (c : ∃ fd, FunD K x x (defArgs st) (defBody st) (defScope st) [] [] (He.fAd K (x, none)) fd) (G : mg x = some (.ref (He.ga K x))) (out : K.lookup (He.cT K (x, none)).2 = none) (hb : BindsAs x st ps) :
    ∃ T : LamT K mg x st ps, T.f = He.ga K x ∧ (T.c, T.P) = He.cT K (x, none) := by
  obtain ⟨fd, F⟩ := c
  have B := FunD.bindsN F hb
  obtain ⟨oc, od, dV, kV, doc, pm, an, cdv, ct, osl, rfl, lk, hcd, hD, hK⟩ := (F.ex)
  rcases (hD) with ⟨_, rfl⟩ | ⟨e, _⟩
  · obtain ⟨c, rfl⟩ := He.codeIn_ref hcd
    have e := He.codeOf_eq lk rfl
    exact ⟨⟨He.ga K x, c, (He.cT K (x, none)).2, oc, kV, doc, pm, ct, od, an, osl, lk, hcd, B, G, F.kp, out⟩, rfl, (show He.cT K (x, none) = (c, (He.cT K (x, none)).2) from Prod.ext e rfl).symm⟩
  · exact absurd rfl e
theorem exT_of {x : Str} (G : mg x = some (.ref (He.ga K x))) (c : (He.Fa.exc x).ok K = true) : ∃ T : ExT K mg x, T.C = He.ga K x := by
  obtain ⟨h1, h2, h3, h4⟩ := He.exc_ok c
  exact ⟨⟨_, _, _, _, _, F.excBase_ValueError, h1, G, h2, h3, h4⟩, rfl⟩
/-- a dict of the module, by its keys and values -/
def datD : He.Dv → D
  | .non => .none
  | .bl b => .bool b
  | .int i => .int i
  | .str x => .str x
  | _ => .none
def flatDv : He.Dv → Bool
  | .non | .bl _ | .int _ | .str _ => true
  | _ => false
theorem datD_rep {A : AS} {H : Hp} {v : He.Dv} (h : flatDv v = true) : Rep K A H (datD v) (v.v K) := by
  cases v <;> first | rfl | cases h
theorem keys_find {P : Params} {z : Str} : ∀ {l : List DictEntry} {ks : List Str}, l.map He.keyOf = He.keysIn P ks → ¬ z ∈ ks → (l.find? (·.key.isStr z) = none) ∧ l.any (·.refKey) = false
  | [], _, _, _ => ⟨rfl, rfl⟩
  | e :: r, [], h, _ => nomatch h
  | e :: r, k :: ks, h, nz => by
    have h' : He.keyOf e :: r.map He.keyOf = some (k, PyData.keyHash P k) :: He.keysIn P ks := h
    injection h' with h1 h2
    obtain ⟨i1, i2⟩ := keys_find h2 (fun m => nz (List.mem_cons_of_mem _ m))
    have hk : ∃ t, e.key = .str k t := by
      unfold He.keyOf at h1
      split at h1
      · rename_i x t q
        have h4 := Option.some.inj h1
        obtain ⟨h5, _⟩ := Prod.mk.inj h4
        exact ⟨t, by rw [q, h5]⟩
      · cases h1
    obtain ⟨t, hk⟩ := hk
    have ne : ¬ k = z := fun y => nz (y ▸ List.mem_cons_self)
    refine ⟨?_, ?_⟩
    · rw [List.find?_cons_of_neg (p := fun x : DictEntry => x.key.isStr z) (by rw [hk]; simp [Value.isStr]; exact ne)]
      exact i1
    · rw [List.any_cons, i2, Bool.or_false]
      unfold DictEntry.refKey
      rw [hk]
theorem lookup_map {z : Str} : ∀ {kvs : List (Str × He.Dv)}, (kvs.map fun q => (q.1, datD q.2)).lookup z = (kvs.lookup z).map datD
  | [] => rfl
  | (k, v) :: r => by
    rw [List.map_cons, List.lookup_cons, List.lookup_cons]
    cases z == k with
    | true => rfl
    | false => exact lookup_map
theorem lookup_mem {z : Str} {v : He.Dv} : ∀ {kvs : List (Str × He.Dv)}, kvs.lookup z = some v → (z, v) ∈ kvs
  | [], e => nomatch e
  | (k, u) :: r, e => by
    rw [List.lookup_cons] at e
    cases q : z == k with
    | true => rw [q] at e; cases e; rw [eq_of_beq q]; exact List.mem_cons_self
    | false => rw [q] at e; exact List.mem_cons_of_mem _ (lookup_mem e)
theorem lookup_none {z : Str} : ∀ {kvs : List (Str × He.Dv)}, kvs.lookup z = none → ¬ z ∈ kvs.map (·.1)
  | [], _ => by simp
  | (k, u) :: r, e => by
    rw [List.lookup_cons] at e
    cases q : z == k with
    | true => rw [q] at e; cases e
    | false =>
      rw [q] at e
      intro m
      rcases List.mem_cons.mp m with m | m
      · have m : z = k := m
        rw [m, beq_self_eq_true] at q; cases q
      · exact lookup_none e m
theorem tabIs_of {a : Addr} {kvs : List (Str × He.Dv)} (hd : He.dicW K a = some (He.keysIn w.params (kvs.map (·.1)))) (hv : He.valsB K a kvs = true) (hf : (kvs.all fun q => flatDv q.2) = true) : TabIs K w a (kvs.map fun q => (q.1, datD q.2)) := by
  obtain ⟨es, n, D⟩ := He.dicW_ok hd
  refine ⟨⟨es, n, D⟩, fun z => ?_⟩
  rw [lookup_map]
  cases hz : kvs.lookup z with
  | some v =>
    have m := lookup_mem hz
    obtain ⟨u, h1, h2⟩ := He.valsB_ok hv m
    exact ⟨some u, h1, u, v.v K, rfl, h2, fun A H => datD_rep (List.all_eq_true.mp hf _ m)⟩
  | none =>
    refine ⟨none, ?_, rfl⟩
    have nz := lookup_none hz
    have keys : es.toList.map He.keyOf = He.keysIn w.params (kvs.map (·.1)) := by
      unfold He.dicW at hd
      rw [D.at_] at hd
      have hd' : (match decide (("dict" : String) = "dict") && ((#[] : Array (Option Value)).isEmpty && !(a == sysModules)) with
        | true => some (es.toList.map He.keyOf)
        | false => none) = some (He.keysIn w.params (kvs.map (·.1))) := hd
      rw [D.low] at hd'
      exact Option.some.inj hd'
    obtain ⟨f1, f2⟩ := keys_find keys nz
    unfold PySem.W.nsIn
    rw [D.at_]
    dsimp only
    rw [f1, f2]
    rfl
theorem tabK {fa : List He.Fa} {fn : List He.DefD} {ts : List He.Tab} (c : He.SaysT fa fn ts w K) (i : Nat) {t : He.Tab} (q : ts[i]? = some t) : He.dicW K (t.1 K) = some (He.keysIn w.params t.2) := by
  have e : ts.map (fun t => He.dicW K (t.1 K)) = ts.map fun t => some (He.keysIn w.params t.2) := congrArg (fun z : He.AlT => z.2) c
  have e2 := congrArg (fun l => l[i]?) e
  simp only [List.getElem?_map, q] at e2
  exact Option.some.inj e2
end
/-- what the row's end wants of a law -/
def LawG (l : PySem.W.OpenLaw) (w : World) (K : PySem.W.Frag) (k : Nat) (x : Str) (mg : Str → Option Value) (fa : Addr) (h : Heap) : Prop :=
  ∃ (fd : FuncData) (cs : List (Addr × Addr)) (tb : List (Addr × Str)), (∀ p ∈ cs, h.get? p.2 = some { cls := .none, data := .fields #[] }) ∧ (∀ p ∈ cs, K.lookup p.2 = none) ∧ (∀ p ∈ cs, PySem.W.CodeHd h p.1 p.2) ∧ (∀ p ∈ tb, p.1 ∈ cs.map (·.2)) ∧
    (∀ (s : Shared) (u : Value), BindsTo s fd ⟨[u], []⟩ [(x, u)]) ∧ ∀ base : Heap, K.In base → base.Ns mainGlobals mg → (∀ p ∈ cs, LamX.TabB base mg p.1 p.2) → FnG l.prog w K mg base true k fa fd [x] (spL K tb)
theorem walk_ofG {l : PySem.W.OpenLaw} {k : Nat} {q : Program} {loose : List Str} {XP : (Str → Option Value) → Heap → Prop} {YP : World → Heap → Prop} {d : DefRec} {x : Str} (most : l.most = some 63) (nodef : d.params.defaults = []) (room : Room k callerA)
    (F : ∀ (w : World) (mg : Str → Option Value) (fa : Addr) (h : Heap), YP w h → h.Ns mainGlobals mg → mg d.name = some (.ref fa) → ∃ K : PySem.W.Frag, K.In h ∧ LawG l w K k x mg fa h) :
    PySem.W.WalkO q loose XP YP l.row.toRowW d [] (fun g us => PySem.call g us) :=
  Att.attach_callB most nodef fun w s0 s1 mg mb fa o pm cd doc a vs ns G Y _ _ _ named obj whole few bits nog => by
    obtain ⟨K, KX, fd, cs, tb, emp, outK, code, htb, bind, run⟩ := F w mg fa _ Y G.T.g named
    exact law_callG KX G.T.g G.T.b G.T.builtins G.T.nolimit nog emp outK code G.T.bmain obj whole few bits room htb run bind
end Vl
end
section
set_option autoImplicit false
set_option maxRecDepth 100000
/-! V29: comprehensions of two generators. -/
namespace Vl
open PySem L2

/-- the own lists that stand behind a target stood before it -/
def OldG (g : D → Env → Option Env) : Prop := ∀ d env e1, g d env = some e1 → ∀ (i : Nat) (es : List D), e1[i]? = some (SV.own es) → env[i]? = some (SV.own es)
def OldL (g : List D → Env → Option Env) : Prop := ∀ ds env e1, g ds env = some e1 → ∀ (i : Nat) (es : List D), e1[i]? = some (SV.own es) → env[i]? = some (SV.own es)
theorem old_name (j : Nat) : OldG (tgName j) := fun d env e1 h i es q => by
  cases h
  by_cases e : j = i
  · subst e
    rw [List.getElem?_set_self'] at q
    cases hj : env[j]? with
    | none => rw [hj] at q; cases q
    | some s => rw [hj] at q; cases q
  · rwa [List.getElem?_set_ne e] at q
theorem old_nil : OldL tgNil := fun ds env e1 h i es q => by
  cases ds with
  | nil => cases h; exact q
  | cons d ds => cases h
theorem old_cons {g : D → Env → Option Env} {h : List D → Env → Option Env} (h1 : OldG g) (h2 : OldL h) : OldL (tgCons g h) := fun ds env e1 q i es z => by
  cases ds with
  | nil => cases q
  | cons d ds =>
    change (g d env).bind (fun e => h ds e) = some e1 at q
    cases hg : g d env with
    | none => rw [hg] at q; cases q
    | some e2 => rw [hg] at q; exact h1 _ _ _ hg i es (h2 _ _ _ q i es z)
theorem old_tup {n : Nat} {h : List D → Env → Option Env} (h2 : OldL h) : OldG (tgTup n h) := fun d env e1 q i es z => by
  cases d with
  | tuple ds =>
    change (if ds.length = n then h ds env else none) = some e1 at q
    by_cases hn : ds.length = n
    · rw [if_pos hn] at q; exact h2 _ _ _ q i es z
    · rw [if_neg hn] at q; cases q
  | _ => cases q
theorem wipeE_own {i : Nat} {es : List D} {env : Env} : ∀ {vs : List Nat}, (wipeE env vs)[i]? = some (SV.own es) → env[i]? = some (SV.own es) ∧ i ∉ vs
  | [], h => ⟨h, fun z => nomatch z⟩
  | v :: vs, h => by
    unfold wipeE at h
    by_cases e : v = i
    · subst e
      rw [List.getElem?_set_self'] at h
      cases hj : (wipeE env vs)[v]? with
      | none => rw [hj] at h; cases h
      | some s => rw [hj] at h; cases h
    · rw [List.getElem?_set_ne e] at h
      obtain ⟨a, b⟩ := wipeE_own h
      exact ⟨a, fun z => (List.mem_cons.mp z).elim (fun z => e z.symm) b⟩

def compD2 (tg : D → Env → Option Env) (ts : Env → M Bool) (it1 : Env → M (List D)) (tg1 : D → Env → Option Env) (ts1 : Env → M Bool) (elt : Env → M D) (vs1 : List Nat) : List D → Nat → Env → M (List D)
  | [], _, _ => ret []
  | d :: ds, n, env => match tg d env with
    | none => no
    | some e1 => bnd (noEx (ts e1)) fun b => if b then bnd (noEx (it1 e1)) fun ds1 => bnd (compD tg1 ts1 elt ds1 n (wipeE e1 vs1)) fun ys => bnd (compD2 tg ts it1 tg1 ts1 elt vs1 ds (n + ys.length) env) fun zs => ret (ys ++ zs)
      else compD2 tg ts it1 tg1 ts1 elt vs1 ds n env
def dComp2 (it : Env → M (List D)) (tg : D → Env → Option Env) (ts : Env → M Bool) (it1 : Env → M (List D)) (tg1 : D → Env → Option Env) (ts1 : Env → M Bool) (elt : Env → M D) (vs vs1 : List Nat) : Env → M D :=
  fun env => bnd (it env) fun ds => bnd (compD2 tg ts it1 tg1 ts1 elt vs1 ds 0 (wipeE env vs)) fun ys => ret (.list ys)
def TIof (K : PySem.W.Frag) (Ex : Str → Hp → Prop) (it : Env → M (List D)) : TI := fun σ H R => ∃ W A env P, EOk K W A σ H env P ∧ PostG Ex W.pa H (it env P) (fun ds H1 => ∀ J gs, (∀ g ∈ gs, Rep K A H1 g.2 g.1) → ItOk K J gs ds → R J H1)
theorem XI.can {Ex : Str → Hp → Prop} {X : Cx} {tg iter : Expr} {it : Env → M (List D)} (h : XI Ex X tg iter it) : PI X tg iter (TIof X.K Ex it) := by
  obtain ⟨wi, ht, q⟩ := h
  exact ⟨fun pins s σ H R I ⟨W, A, env, P, k, p⟩ => ht.run pins s σ H R I (q W A σ H env P R k p)⟩

theorem bnd_at {α β : Type} {m m' : M α} {f : α → M β} {P P' : Pen} (h : m P = m' P') : bnd m f P = bnd m' f P' := by
  unfold bnd; rw [h]
theorem bnd_nil {α : Type} {m : M (List α)} {P : Pen} : bnd m (fun zs => ret ([] ++ zs)) P = m P := by
  unfold bnd
  cases m P <;> rfl
section
variable {tg : D → Env → Option Env} {ts : Env → M Bool} {elt : Env → M D} {d y : D} {ds : List D} {n : Nat} {env e1 : Env} {P P1 P2 : Pen}
theorem compD_f (h : tg d env = some e1) (h1 : ts e1 P = .ok false P1) : compD tg ts elt (d :: ds) n env P = compD tg ts elt ds n env P1 := by
  rw [compD, h]; unfold bnd noEx; dsimp only; rw [h1]; rfl
theorem compD_t (h : tg d env = some e1) (h1 : ts e1 P = .ok true P1) (h2 : elt e1 P1 = .ok y P2) (hn : n < 16777216) : compD tg ts elt (d :: ds) n env P = bnd (compD tg ts elt ds (n + 1) env) (fun ys => ret (y :: ys)) P2 := by
  rw [compD, h]; dsimp only; unfold bnd noEx; rw [h1]; dsimp only
  rw [if_pos rfl, h2]; dsimp only; rw [if_pos hn]
theorem compD_n1 (h : tg d env = none) : compD tg ts elt (d :: ds) n env P = .no := by
  rw [compD, h]; rfl
theorem compD_n2 (h : tg d env = some e1) (h1 : ∀ b P1, ts e1 P ≠ .ok b P1) : compD tg ts elt (d :: ds) n env P = .no := by
  rw [compD, h]; dsimp only; unfold bnd noEx
  cases hh : ts e1 P with
  | ok b P1 => exact absurd hh (h1 b P1)
  | ex c P1 => rfl
  | no => rfl
theorem compD_n3 (h : tg d env = some e1) (h1 : ts e1 P = .ok true P1) (h2 : ∀ y P2, elt e1 P1 ≠ .ok y P2) : compD tg ts elt (d :: ds) n env P = .no := by
  rw [compD, h]; dsimp only; unfold bnd noEx; rw [h1]; dsimp only
  rw [if_pos rfl]
  cases hh : elt e1 P1 with
  | ok b P1 => exact absurd hh (h2 b P1)
  | ex c P1 => rfl
  | no => rfl
theorem compD_n4 (h : tg d env = some e1) (h1 : ts e1 P = .ok true P1) (h2 : elt e1 P1 = .ok y P2) (hn : ¬ n < 16777216) : compD tg ts elt (d :: ds) n env P = .no := by
  rw [compD, h]; dsimp only; unfold bnd noEx; rw [h1]; dsimp only
  rw [if_pos rfl, h2]; dsimp only; rw [if_neg hn]; rfl
end
theorem bnd_no {α β : Type} {m : M α} {f : α → M β} {P : Pen} (h : m P = .no) : bnd m f P = .no := by
  unfold bnd; rw [h]
/-- one more in front -/
theorem post_front {Ex : Str → Hp → Prop} {pa : PL} {H : Hp} {m : M (List D)} {g : Nat → M (List D)} {n : Nat} {y : D} {P : Pen} {Q : List D → Hp → Prop}
    (h : PostG Ex pa H (bnd (bnd m fun ys => ret (y :: ys)) (fun ys => bnd (g (n + ys.length)) fun zs => ret (ys ++ zs)) P) Q) :
    PostG Ex pa H (bnd m (fun ys => bnd (g (n + 1 + ys.length)) fun zs => ret (ys ++ zs)) P) (fun l H => Q (y :: l) H) := by
  unfold bnd at h ⊢
  cases hm : m P with
  | no => rw [hm] at h; exact h
  | ex c P1 => rw [hm] at h; exact h
  | ok ys P1 =>
    rw [hm] at h
    dsimp only [ret] at h ⊢
    rw [List.length_cons, show n + (ys.length + 1) = n + 1 + ys.length by omega] at h
    cases hg : g (n + 1 + ys.length) P1 with
    | no => rw [hg] at h; exact h
    | ex c P2 => rw [hg] at h; exact h
    | ok zs P2 => rw [hg] at h; exact h
end Vl
end
section
set_option autoImplicit false
set_option maxRecDepth 100000
/-! V30: comprehensions of two generators: their readings. -/
namespace Vl
open PySem L2
section
variable {Ex : Str → Hp → Prop} {X : Cx} {tg elt iter tg1 iter1 : Expr} {ifs ifs1 : List Expr} {scope : Scope} {own : List (Str × Nat)} {pos : Pos} {it it1 : Env → M (List D)} {gD gD1 : D → Env → Option Env} {fc fc1 : Env → M Bool} {fe : Env → M D} {sl sl1 : List Nat}
theorem lc2_sd {wi : TI} {vs vs1 : List Nat} (qi : ∀ W A σ H env P R, EOk X.K W A σ H env P → PostG Ex W.pa H (it env P) (fun ds H1 => ∀ J gs, (∀ g ∈ gs, Rep X.K A H1 g.2 g.1) → ItOk X.K J gs ds → R J H1) → wi σ H R) (hsl : ∀ i ∈ sl, i ∈ vs) (hsl1 : ∀ i ∈ sl1, i ∈ vs1) (og : OldG gD) :
    Sd X.K Ex .f (tLc2 wi (TGof X.K sl gD) (TTof X.K Ex0 fc) (TIof X.K Ex0 it1) (TGof X.K sl1 gD1) (TTof X.K Ex0 fc1) (TEof X.K Ex0 .v fe) vs vs1) (dComp2 it gD fc it1 gD1 fc1 fe vs vs1) := fun W A σ H env P Q k p => by
  refine qi W A σ H env P _ k ((PostG.bnd k p).mono ?_)
  rintro ds _ H1 _ _ ⟨P1, e1, p1, k1, post⟩ J gs hgs okJ Dd hD
  have kw := ((k1.keepsL gs hgs).wipe vs)
  have k0 := kw.avoid (o := .lst []) hD
  obtain ⟨h00, hnp⟩ := kw.none0 hD
  have sD := same_upd (o := .lst []) hD
  have hown : ∀ (i : Nat) (es : List D), (wipeE env vs)[i]? = some (SV.own es) → (L2.wipe σ vs)[i]? ≠ some (some (V.ref Dd)) := fun i es h1 h2 => by
    obtain ⟨o, e1, b, us, e2, hb, _, hl, _⟩ := kw.at h1
    rw [e1] at h2; cases h2; cases e2
    rw [hD] at hl; cases hl
  have post0 : PostG Ex W.pa H1 (compD2 gD fc it1 gD1 fc1 fe vs1 ds 0 (wipeE env vs) P1) (fun ys H2 => ∀ accv, H2 Dd = some (.lst accv) → Reps X.K (ad A Dd) H2 ys accv → Q (.ref Dd) H2) := by
    refine (PostG.bnd k1 post).mono ?_
    rintro ys P2 H2 e2 p2 ⟨P3, e3, p3, k3, post3⟩ accv ha hr
    exact post_here post3 p3 e3 (e1.trans e3) (.ref Dd) ⟨Dd, accv, ys, rfl, rfl, fresh_back k.pen e1 p1 (.of hD), ha, hr⟩
  refine ⟨fun i m H => m = ds.length - i ∧ i ≤ ds.length ∧ ∃ P acc accv, EOk X.K { W with G := gs ++ W.G } (ad A Dd) (L2.wipe σ vs) H (wipeE env vs) P ∧ HExt W.pa H1 H ∧ H Dd = some (.lst accv) ∧ Reps X.K (ad A Dd) H acc accv ∧
      PostG Ex W.pa H1 (compD2 gD fc it1 gD1 fc1 fe vs1 (ds.drop i) acc.length (wipeE env vs) P) (fun ys H2 => ∀ accv, H2 Dd = some (.lst accv) → Reps X.K (ad A Dd) H2 (acc ++ ys) accv → Q (.ref Dd) H2),
    ⟨_, rfl, Nat.zero_le _, P1, [], [], k0, HExt.of sD, upd_same, rfl, by rw [List.drop_zero]; exact post0⟩, ?_⟩
  rintro i m H2 ⟨rfl, hi, P2, acc, accv, k2, eH, hDd, hacc, post2⟩
  obtain ⟨ku, hr⟩ := k2.unkeepL
  obtain ⟨st, go, yl⟩ := okJ W (ad A Dd) _ H2 _ P2 ku hr
  by_cases hlt : i < ds.length
  · refine .inr ⟨go i hlt, fun H' => ∃ P acc accv, EOk X.K { W with G := gs ++ W.G } (ad A Dd) (L2.wipe σ vs) H' (wipeE env vs) P ∧ HExt W.pa H1 H' ∧ H' Dd = some (.lst accv) ∧ Reps X.K (ad A Dd) H' acc accv ∧
        PostG Ex W.pa H1 (compD2 gD fc it1 gD1 fc1 fe vs1 (ds.drop (i + 1)) acc.length (wipeE env vs) P) (fun ys H2 => ∀ accv, H2 Dd = some (.lst accv) → Reps X.K (ad A Dd) H2 (acc ++ ys) accv → Q (.ref Dd) H2),
      fun H' q => ⟨ds.length - (i + 1), by omega, rfl, hlt, q⟩, fun x H3 hy => ?_⟩
    obtain ⟨sm, d, hd, rd⟩ := yl i x H3 hlt hy
    have ed : ds.drop i = d :: ds.drop (i + 1) := by
      rw [(List.drop_eq_getElem_cons hlt)]
      rw [List.getElem?_eq_getElem hlt] at hd
      rw [Option.some.inj hd]
    rw [ed] at post2
    unfold compD2 at post2
    cases htg : gD d (wipeE env vs) with
    | none => rw [htg] at post2; exact post2.elim
    | some e2 =>
      rw [htg] at post2
      have k3 := k2.stayS sm
      have e3 := eH.trans (HExt.of (pa := W.pa) sm)
      change PostG Ex W.pa H1 (bnd (noEx (fc e2)) _ P2) _ at post2
      unfold bnd noEx at post2
      refine ⟨{ W with G := gs ++ W.G }, ad A Dd, wipeE env vs, P2, d, e2, k3, rd, htg, fun σ4 w4 k4 => ⟨?_, ?_⟩⟩
      · rw [w4 vs hsl, wipe_mem fun _ h => h]
      · cases hfc : fc e2 P2 with
        | no => rw [hfc] at post2; exact post2.elim
        | ex c P5 => rw [hfc] at post2; exact post2.elim
        | ok b P5 =>
          rw [hfc] at post2
          refine ⟨{ W with G := gs ++ W.G }, ad A Dd, e2, P2, k4, ?_⟩
          rw [hfc]
          intro H5 e5 p5
          have k5 := k4.ext e5 p5
          have kb5 := k3.ext e5 p5
          have hD5 : H5 Dd = some (.lst accv) := e5.at (sm _ _ hDd) fun ⟨c, z⟩ => (hnp _ _ z).1 rfl
          have hacc5 := k3.reps e5 (k2.repsN sm hacc)
          cases b with
          | false => exact iteF ⟨P5, acc, accv, kb5, e3.trans e5, hD5, hacc5, post2⟩
          | true =>
            dsimp only at post2
            rw [if_pos rfl] at post2
            refine iteT ?_
            cases hit : it1 e2 P5 with
            | no => rw [hit] at post2; exact post2.elim
            | ex c P6 => rw [hit] at post2; exact post2.elim
            | ok ds1 P6 =>
              rw [hit] at post2
              dsimp only at post2
              refine ⟨{ W with G := gs ++ W.G }, ad A Dd, e2, P5, k5, ?_⟩
              rw [hit]
              intro H6 e6 p6 J1 gs1 hgs1 okJ1
              have ki6 := ((k5.ext e6 p6).keepsL gs1 hgs1).wipe vs1
              have kb6 := (kb5.ext e6 p6).keepsL gs1 hgs1
              have hD6 : H6 Dd = some (.lst accv) := e6.at hD5 fun ⟨c, z⟩ => (hnp _ _ z).1 rfl
              have hacc6 := kb5.reps e6 hacc5
              have hown1 : ∀ (i : Nat) (es : List D), (wipeE e2 vs1)[i]? = some (SV.own es) → (L2.wipe σ4 vs1)[i]? ≠ some (some (V.ref Dd)) := fun i es h1 h2 => by
                have h3 := og _ _ _ htg i es (wipeE_own h1).1
                obtain ⟨h4, h5⟩ := wipeE_own h3
                have h6 := (wipe_some h2).1
                refine hown i es h3 ?_
                have h7 : L2.wipe σ4 vs = L2.wipe σ vs := by rw [w4 vs hsl, wipe_mem fun _ h => h]
                rw [← h7, wipe_out h5]
                exact h6
              have post6 : PostG Ex W.pa H1 (bnd (compD gD1 fc1 fe ds1 acc.length (wipeE e2 vs1)) (fun ys => bnd (compD2 gD fc it1 gD1 fc1 fe vs1 (ds.drop (i + 1)) (acc.length + ys.length) (wipeE env vs)) fun zs => ret (ys ++ zs)) P6)
                  (fun ys H2 => ∀ accv, H2 Dd = some (.lst accv) → Reps X.K (ad A Dd) H2 (acc ++ ys) accv → Q (.ref Dd) H2) := post2
              refine ⟨fun j k H => k = ds1.length - j ∧ j ≤ ds1.length ∧ ∃ P acc accv, EOk X.K { W with G := gs1 ++ (gs ++ W.G) } (ad A Dd) (L2.wipe σ4 vs1) H (wipeE e2 vs1) P ∧ EOk X.K { W with G := gs1 ++ (gs ++ W.G) } (ad A Dd) (L2.wipe σ vs) H (wipeE env vs) P ∧ HExt W.pa H1 H ∧ H Dd = some (.lst accv) ∧ Reps X.K (ad A Dd) H acc accv ∧
                  PostG Ex W.pa H1 (bnd (compD gD1 fc1 fe (ds1.drop j) acc.length (wipeE e2 vs1)) (fun ys => bnd (compD2 gD fc it1 gD1 fc1 fe vs1 (ds.drop (i + 1)) (acc.length + ys.length) (wipeE env vs)) fun zs => ret (ys ++ zs)) P)
                    (fun ys H2 => ∀ accv, H2 Dd = some (.lst accv) → Reps X.K (ad A Dd) H2 (acc ++ ys) accv → Q (.ref Dd) H2),
                ⟨_, rfl, Nat.zero_le _, P6, acc, accv, ki6, kb6, e3.trans (e5.trans e6), hD6, hacc6, by rw [List.drop_zero]; exact post6⟩, ?_⟩
              rintro j m H7 ⟨rfl, hj, P7, acc, accv, k7, kb7, e7, hD7, hacc7, post7⟩
              obtain ⟨ku1, hr1⟩ := EOk.unkeepL (W := { W with G := gs ++ W.G }) k7
              obtain ⟨st1, go1, yl1⟩ := okJ1 { W with G := gs ++ W.G } (ad A Dd) _ H7 _ P7 ku1 hr1
              by_cases hlt1 : j < ds1.length
              · refine .inr ⟨go1 j hlt1, fun H' => ∃ P acc accv, EOk X.K { W with G := gs1 ++ (gs ++ W.G) } (ad A Dd) (L2.wipe σ4 vs1) H' (wipeE e2 vs1) P ∧ EOk X.K { W with G := gs1 ++ (gs ++ W.G) } (ad A Dd) (L2.wipe σ vs) H' (wipeE env vs) P ∧ HExt W.pa H1 H' ∧ H' Dd = some (.lst accv) ∧ Reps X.K (ad A Dd) H' acc accv ∧
                    PostG Ex W.pa H1 (bnd (compD gD1 fc1 fe (ds1.drop (j + 1)) acc.length (wipeE e2 vs1)) (fun ys => bnd (compD2 gD fc it1 gD1 fc1 fe vs1 (ds.drop (i + 1)) (acc.length + ys.length) (wipeE env vs)) fun zs => ret (ys ++ zs)) P)
                      (fun ys H2 => ∀ accv, H2 Dd = some (.lst accv) → Reps X.K (ad A Dd) H2 (acc ++ ys) accv → Q (.ref Dd) H2),
                  fun H' q => ⟨ds1.length - (j + 1), by omega, rfl, hlt1, q⟩, fun x1 H8 hy1 => ?_⟩
                obtain ⟨sm1, d1, hd1, rd1⟩ := yl1 j x1 H8 hlt1 hy1
                have ed1 : ds1.drop j = d1 :: ds1.drop (j + 1) := by
                  rw [List.drop_eq_getElem_cons hlt1]
                  rw [List.getElem?_eq_getElem hlt1] at hd1
                  rw [Option.some.inj hd1]
                rw [ed1] at post7
                cases htg1 : gD1 d1 (wipeE e2 vs1) with
                | none => rw [bnd_no (compD_n1 htg1)] at post7; exact post7.elim
                | some e4 =>
                  have k8 := k7.stayS sm1
                  have kb8 := kb7.stayS sm1
                  have e8 := e7.trans (HExt.of (pa := W.pa) sm1)
                  refine ⟨{ W with G := gs1 ++ (gs ++ W.G) }, ad A Dd, wipeE e2 vs1, P7, d1, e4, k8, rd1, htg1, fun σ9 w9 k9 => ⟨?_, ?_⟩⟩
                  · rw [w9 vs1 hsl1, wipe_mem fun _ h => h]
                  · cases hfc1 : fc1 e4 P7 with
                    | no => rw [bnd_no (compD_n2 htg1 fun b P1 z => by rw [hfc1] at z; cases z)] at post7; exact post7.elim
                    | ex c P8 => rw [bnd_no (compD_n2 htg1 fun b P1 z => by rw [hfc1] at z; cases z)] at post7; exact post7.elim
                    | ok b P8 =>
                      refine ⟨{ W with G := gs1 ++ (gs ++ W.G) }, ad A Dd, e4, P7, k9, ?_⟩
                      rw [hfc1]
                      intro H9 e9 p9
                      have k10 := k9.ext e9 p9
                      have ki9 := k8.ext e9 p9
                      have kb9 := kb8.ext e9 p9
                      have hD9 : H9 Dd = some (.lst accv) := e9.at (sm1 _ _ hD7) fun ⟨c, z⟩ => (hnp _ _ z).1 rfl
                      have hacc9 := k8.reps e9 (k7.repsN sm1 hacc7)
                      cases b with
                      | false =>
                        rw [bnd_at (compD_f htg1 hfc1)] at post7
                        exact iteF ⟨P8, acc, accv, ki9, kb9, e8.trans e9, hD9, hacc9, post7⟩
                      | true =>
                        refine iteT ?_
                        cases hfe : fe e4 P8 with
                        | no => rw [bnd_no (compD_n3 htg1 hfc1 fun b P1 z => by rw [hfe] at z; cases z)] at post7; exact post7.elim
                        | ex c P10 => rw [bnd_no (compD_n3 htg1 hfc1 fun b P1 z => by rw [hfe] at z; cases z)] at post7; exact post7.elim
                        | ok y P10 =>
                          refine ⟨{ W with G := gs1 ++ (gs ++ W.G) }, ad A Dd, e4, P8, k10, ?_⟩
                          rw [hfe]
                          intro H10 e10 p10 v rv
                          have ki11 := ki9.ext e10 p10
                          have kb11 := kb9.ext e10 p10
                          have hD10 : H10 Dd = some (.lst accv) := e10.at hD9 fun ⟨c, z⟩ => (hnp _ _ z).1 rfl
                          have hacc10 := ki9.reps e10 hacc9
                          by_cases hn : acc.length < 16777216
                          · rw [bnd_at (compD_t htg1 hfc1 hfe hn)] at post7
                            obtain ⟨kp, stp⟩ := ki11.poke (a := Dd) (o := .lst (accv ++ [v])) (.inr rfl) (by rw [hD10]; trivial) h00 hnp nt_lst hown1
                            obtain ⟨kq, _⟩ := kb11.poke (a := Dd) (o := .lst (accv ++ [v])) (.inr rfl) (by rw [hD10]; trivial) h00 hnp nt_lst hown
                            refine ⟨accv, hD10, by rw [hacc10.length, sizeLine_eq]; exact hn, P10, acc ++ [y], accv ++ [v], kp, kq, fun b u hb nb nt => ?_, upd_same, Reps.mono stp _ _ (hacc10.append (Reps.one rv)), ?_⟩
                            · have hbD : b ≠ Dd := fun z => by subst z; rw [hD] at hb; cases hb
                              rw [upd_ne hbD]
                              exact (e8.trans (e9.trans e10)) b u hb nb nt
                            · rw [List.length_append]; rw [List.length_singleton]
                              refine (post_front (g := fun k => compD2 gD fc it1 gD1 fc1 fe vs1 (ds.drop (i + 1)) k (wipeE env vs)) (n := acc.length) post7).mono ?_
                              intro ys P11 H11 e11 p11 q accv7 h7 r7
                              exact q accv7 h7 (by rw [List.append_assoc] at r7; exact r7)
                          · rw [bnd_no (compD_n4 htg1 hfc1 hfe hn)] at post7; exact post7.elim
              · have ej : j = ds1.length := by omega
                subst ej
                rw [List.drop_length] at post7
                obtain ⟨ku2, _⟩ := EOk.unkeepL (W := { W with G := gs ++ W.G }) kb7
                refine .inl ⟨st1, P7, acc, accv, ku2, e7, hD7, hacc7, ?_⟩
                have z : bnd (compD gD1 fc1 fe [] acc.length (wipeE e2 vs1)) (fun ys => bnd (compD2 gD fc it1 gD1 fc1 fe vs1 (ds.drop (i + 1)) (acc.length + ys.length) (wipeE env vs)) fun zs => ret (ys ++ zs)) P7 = compD2 gD fc it1 gD1 fc1 fe vs1 (ds.drop (i + 1)) acc.length (wipeE env vs) P7 := bnd_nil
                rw [z] at post7
                exact post7
  · have ei : i = ds.length := by omega
    subst ei
    rw [List.drop_length] at post2
    exact .inl ⟨st, post2 H2 eH k2.pen accv hDd (by rw [List.append_nil]; exact hacc)⟩
theorem x_lc2 (vs1 : List Nat) (hc : X.calm = true) (hN : X.N.Nodup) (hi : XI Ex X tg iter it) (ok : BlkOk X.N X.env.scope scope own)
    (hg : ∀ (s : Shared) (H : Hp) (C : Addr) (cl : List (Str × Addr)) (fp : List Addr), XG (X.blk s H scope (compEnvC scope cl C X.env) fp) tg sl gD)
    (ht : ∀ (s : Shared) (H : Hp) (C : Addr) (cl : List (Str × Addr)) (fp : List Addr), XTs Ex0 (X.blk s H scope (compEnvC scope cl C X.env) fp) ifs fc)
    (hi1 : ∀ (s : Shared) (H : Hp) (C : Addr) (cl : List (Str × Addr)) (fp : List Addr), XI Ex0 (X.blk s H scope (compEnvC scope cl C X.env) fp) tg1 iter1 it1)
    (hg1 : ∀ (s : Shared) (H : Hp) (C : Addr) (cl : List (Str × Addr)) (fp : List Addr), XG (X.blk s H scope (compEnvC scope cl C X.env) fp) tg1 sl1 gD1)
    (ht1 : ∀ (s : Shared) (H : Hp) (C : Addr) (cl : List (Str × Addr)) (fp : List Addr), XTs Ex0 (X.blk s H scope (compEnvC scope cl C X.env) fp) ifs1 fc1)
    (he : ∀ (s : Shared) (H : Hp) (C : Addr) (cl : List (Str × Addr)) (fp : List Addr), XE Ex0 (X.blk s H scope (compEnvC scope cl C X.env) fp) .v elt fe)
    (og : OldG gD) (hsl : ∀ i ∈ sl, i ∈ own.map (·.2) := by decide) (hsl1 : ∀ i ∈ sl1, i ∈ vs1 := by decide) (hv : ∀ i ∈ vs1, i ∈ own.map (·.2) := by decide)
    (hs : ∀ x, foldedSetIterable iter X.env x = pure x := by intro _; rfl) (hs1 : ∀ env x, foldedSetIterable iter1 env x = pure x := by intro _ _; rfl) :
    XE Ex X .f (.ListComp elt [⟨tg, iter, ifs, 0⟩, ⟨tg1, iter1, ifs1, 0⟩] scope pos) (dComp2 it gD fc it1 gD1 fc1 fe (own.map (·.2)) vs1) := by
  obtain ⟨wi, hwi, qi⟩ := hi
  exact ⟨_, pe_lc2 hc hN hwi ok hv (g := TGof X.K sl gD) (tt := TTof X.K Ex0 fc) (wi1 := TIof X.K Ex0 it1) (g1 := TGof X.K sl1 gD1) (tt1 := TTof X.K Ex0 fc1) (te := TEof X.K Ex0 .v fe) (fun s H C cl fp => (hg s H C cl fp).can) (fun s H C cl fp => (ht s H C cl fp).can)
    (fun s H C cl fp => (hi1 s H C cl fp).can) (fun s H C cl fp => (hg1 s H C cl fp).can) (fun s H C cl fp => (ht1 s H C cl fp).can) (fun s H C cl fp => (he s H C cl fp).can) hs hs1, lc2_sd qi hsl hsl1 og⟩
theorem xs_setLc2 {kd : Kd} {y : Str} {py spos : Pos} (i : Nat) (vs1 : List Nat) (hc : X.calm = true) (hN : X.N.Nodup) (hi : XI Ex X tg iter it) (ok : BlkOk X.N X.env.scope scope own)
    (hg : ∀ (s : Shared) (H : Hp) (C : Addr) (cl : List (Str × Addr)) (fp : List Addr), XG (X.blk s H scope (compEnvC scope cl C X.env) fp) tg sl gD)
    (ht : ∀ (s : Shared) (H : Hp) (C : Addr) (cl : List (Str × Addr)) (fp : List Addr), XTs Ex0 (X.blk s H scope (compEnvC scope cl C X.env) fp) ifs fc)
    (hi1 : ∀ (s : Shared) (H : Hp) (C : Addr) (cl : List (Str × Addr)) (fp : List Addr), XI Ex0 (X.blk s H scope (compEnvC scope cl C X.env) fp) tg1 iter1 it1)
    (hg1 : ∀ (s : Shared) (H : Hp) (C : Addr) (cl : List (Str × Addr)) (fp : List Addr), XG (X.blk s H scope (compEnvC scope cl C X.env) fp) tg1 sl1 gD1)
    (ht1 : ∀ (s : Shared) (H : Hp) (C : Addr) (cl : List (Str × Addr)) (fp : List Addr), XTs Ex0 (X.blk s H scope (compEnvC scope cl C X.env) fp) ifs1 fc1)
    (he : ∀ (s : Shared) (H : Hp) (C : Addr) (cl : List (Str × Addr)) (fp : List Addr), XE Ex0 (X.blk s H scope (compEnvC scope cl C X.env) fp) .v elt fe)
    (og : OldG gD) (hsw : swapsWith (.ListComp elt [⟨tg, iter, ifs, 0⟩, ⟨tg1, iter1, ifs1, 0⟩] scope pos) (some (.Name y py)) spos.line X.env = pure true) (hy : X.N[i]? = some y := by rfl) (hyl : X.env.scope.names.lookup y = some .local := by rfl)
    (hsl : ∀ i ∈ sl, i ∈ own.map (·.2) := by decide) (hsl1 : ∀ i ∈ sl1, i ∈ vs1 := by decide) (hv : ∀ i ∈ vs1, i ∈ own.map (·.2) := by decide)
    (hs : ∀ x, foldedSetIterable iter X.env x = pure x := by intro _; rfl) (hs1 : ∀ env x, foldedSetIterable iter1 env x = pure x := by intro _ _; rfl) :
    XS Ex kd X (.Assign [.Name y py] (.ListComp elt [⟨tg, iter, ifs, 0⟩, ⟨tg1, iter1, ifs1, 0⟩] scope pos) spos) (sOwn i (dComp2 it gD fc it1 gD1 fc1 fe (own.map (·.2)) vs1)) := by
  obtain ⟨wi, hwi, qi⟩ := hi
  refine ⟨_, ps_setLc2 hc hN hy hyl hsw hwi ok hv (g := TGof X.K sl gD) (tt := TTof X.K Ex0 fc) (wi1 := TIof X.K Ex0 it1) (g1 := TGof X.K sl1 gD1) (tt1 := TTof X.K Ex0 fc1) (te := TEof X.K Ex0 .v fe) (fun s H C cl fp => (hg s H C cl fp).can) (fun s H C cl fp => (ht s H C cl fp).can)
    (fun s H C cl fp => (hi1 s H C cl fp).can) (fun s H C cl fp => (hg1 s H C cl fp).can) (fun s H C cl fp => (ht1 s H C cl fp).can) (fun s H C cl fp => (he s H C cl fp).can) hs hs1, fun W A σ H env P De k p => ?_⟩
  refine lc2_sd qi hsl hsl1 og W A σ H env P _ k ((PostS.bnd k p).mono ?_)
  rintro d _ H1 _ _ ⟨P1, e1, p1, k1, post⟩ v ⟨a, vs, ds, rfl, rfl, hn, hl, r⟩
  exact post _ _ H1 (k.setO e1 p1 i hn hl r)
end
end Vl
end
section
set_option autoImplicit false
set_option maxRecDepth 100000
/-! V31: defs that end with a return: their answers are new lists. -/
namespace Vl
open PySem L2
/-- never by the end of the block -/
def NoNx (f : Env → M Fl) : Prop := ∀ env P e P', f env P ≠ .ok (.nx e) P'
theorem nn_seq {f g : Env → M Fl} (h : NoNx g) : NoNx (sSeq f g) := fun env P e P' z => by
  unfold sSeq bnd at z
  cases hf : f env P with
  | no => rw [hf] at z; cases z
  | ex c P1 => rw [hf] at z; cases z
  | ok o P1 =>
    rw [hf] at z
    cases o with
    | nx e1 => exact h _ _ _ _ z
    | rt d => cases z
    | bk e1 => cases z
    | ct e1 => cases z
theorem nn_ret {fa : Env → M D} : NoNx (sRet fa) := fun env P e P' z => by
  unfold sRet bnd at z
  cases hf : fa env P with
  | no => rw [hf] at z; cases z
  | ex c P1 => rw [hf] at z; cases z
  | ok o P1 => rw [hf] at z; cases z
theorem nn_retO {i : Nat} : NoNx (sRetO i) := fun env P e P' z => by
  unfold sRetO at z
  cases hf : env[i]? with
  | none => rw [hf] at z; cases z
  | some s => rw [hf] at z; cases s <;> cases z
theorem nn_if {c : Env → M Bool} {f g : Env → M Fl} (h1 : NoNx f) (h2 : NoNx g) : NoNx (sIf c f g) := fun env P e P' z => by
  unfold sIf bnd at z
  cases hf : c env P with
  | no => rw [hf] at z; cases z
  | ex c P1 => rw [hf] at z; cases z
  | ok o P1 =>
    rw [hf] at z
    cases o with
    | true => exact h1 _ _ _ _ z
    | false => exact h2 _ _ _ _ z
theorem nn_share {i : Nat} {f : Env → M Fl} (h : NoNx f) : NoNx (sShare i f) := fun env P e P' z => by
  unfold sShare at z
  cases hf : env[i]? with
  | none => rw [hf] at z; exact h _ _ _ _ z
  | some s => rw [hf] at z; cases s <;> exact h _ _ _ _ z
theorem nn_raise {c : Str} : NoNx (sRaise c) := fun env P e P' z => by
  unfold sRaise at z; cases z
theorem NoNx.of {f : Env → M Fl} {kd : Kd} {n : Nat} (h : NoNx f) : kd = .v ∨ ∀ (ss : List SV) (P0 : Pen) (e : Env) (P' : Pen), f (ss ++ List.replicate (n - ss.length) .un) P0 ≠ .ok (.nx e) P' := .inr fun _ _ _ _ => h _ _ _ _
end Vl
end
section
set_option autoImplicit false
set_option maxRecDepth 100000
/-! V32: raise X(e). -/
namespace Vl
open PySem L2
def sRaiseE (c : Str) (fa : Env → M D) : Env → M Fl := fun env => bnd (fa env) fun _ => raiseM c
section
variable {kd : Kd} {X : Cx} {e : Expr} {fa : Env → M D} {x : Str}
theorem xs_raiseE {ec : EC} {E : XK} {C : Addr} {B newId initId : String} {bmB : List Value} {p rp cp : Pos} (c : Str) (hc : X.calm = true) (tk : Takes X (fun cls d _ H => E cls d H)) (F : ExcBaseFacts B newId initId bmB) (q : PySem.W.excIn X.K C bmB newId = true) (gC : X.mg x = some (.ref C)) (kC : PySem.W.keepIn X.K (.ref C) = true)
    (r : Raises X (.ref C)) (hcC : ec c = C) (h : XE (exOf ec E) X .v e fa) (hg : Gl X x := by rfl) (hs : starEach [e] X.env = (false, eval e X.env) :: starEach [] X.env := by rfl) (hdb : (x == ("__debug__" : Str)) = false := by decide) :
    XS (exOf ec E) kd X (.Raise (some (.Call (.Name x p) [e] [] cp)) none rp) (sRaiseE c fa) := by
  obtain ⟨t, ht, qq⟩ := h
  refine ⟨_, ps_raise hc tk (SkE.pmk_own1 F q gC kC r hg ht hs hdb), fun W A σ H env P De k post => ?_⟩
  subst hcC
  refine qq W A σ H env P _ k ((PostS.bnd k post).mono ?_)
  rintro d _ H1 _ _ ⟨P1, e1, p1, k1, post⟩ v _
  exact post H1 k1.base p1
end
theorem nn_raiseE {c : Str} {fa : Env → M D} : NoNx (sRaiseE c fa) := fun env P e P' z => by
  unfold sRaiseE bnd at z
  cases hf : fa env P <;> rw [hf] at z <;> cases z
end Vl
end
section
set_option autoImplicit false
set_option maxRecDepth 100000
/-! V33: for and comprehensions over zip(*xs). -/
namespace Vl
open PySem L2 PySem.W PySem.Calls PyProof.Rows PySem.SeqAt

theorem All2.memR {α β : Type} {R : α → β → Prop} {as : List α} {bs : List β} (h : All2 R as bs) {b : β} (hb : b ∈ bs) : ∃ a ∈ as, R a b := by
  induction h with
  | nil => cases hb
  | cons r _ ih =>
    rcases (List.mem_cons.mp hb) with rfl | hb
    · exact ⟨_, List.mem_cons_self, r⟩
    · obtain ⟨a, ha, q⟩ := ih hb
      exact ⟨a, List.mem_cons_of_mem _ ha, q⟩
theorem All2.memL {α β : Type} {R : α → β → Prop} {as : List α} {bs : List β} (h : All2 R as bs) {a : α} (ha : a ∈ as) : ∃ b ∈ bs, R a b := by
  induction h with
  | nil => cases ha
  | cons r _ ih =>
    rcases (List.mem_cons.mp ha) with rfl | ha
    · exact ⟨_, List.mem_cons_self, r⟩
    · obtain ⟨b, hb, q⟩ := ih ha
      exact ⟨b, List.mem_cons_of_mem _ hb, q⟩
theorem All2.pair {α β : Type} {R : α → β → Prop} {S : α → α → Prop} {T : β → β → Prop} (f : ∀ a a' b b', S a a' → R a b → R a' b' → T b b') : ∀ {as : List α} {bs : List β}, All2 R as bs → as.Pairwise S → bs.Pairwise T
  | _, _, .nil, _ => .nil
  | _, _, .cons r h, p => by
    obtain ⟨p1, p2⟩ := List.pairwise_cons.mp p
    refine List.pairwise_cons.mpr ⟨fun b' hb => ?_, All2.pair f h p2⟩
    obtain ⟨a', ha', r'⟩ := h.memR hb
    exact f _ _ _ _ (p1 a' ha') r r'
theorem All2.mono {α β : Type} {R R' : α → β → Prop} (f : ∀ a b, R a b → R' a b) : ∀ {as : List α} {bs : List β}, All2 R as bs → All2 R' as bs
  | _, _, .nil => .nil
  | _, _, .cons r h => .cons (f _ _ r) (All2.mono f h)
/-- how it lies: cells z, TI, TO, its iterators J -/
structure CellsN (z TI TO : Addr) (J : List (SK × Addr)) : Prop where
  nd : (z :: TI :: TO :: J.map (·.2)).Nodup
  off : ∀ p ∈ J, ∀ c ∈ z :: TI :: TO :: J.map (·.2), p.1.off c
def SrcN (K : PySem.W.Frag) (H : Hp) (n : Nat) (ks : List SK) (xss : List (List V)) : Prop := All2 (fun (k : SK) xs => k.src K H xs ∧ xs.length = n) ks xss
def ItN (K : PySem.W.Frag) (ks : List SK) : It :=
  ⟨fun i H => ∃ n xss, SrcN K H n ks xss ∧ i < n,
    fun i H v H' => ∃ T o ys, v = .ref T ∧ H T = none ∧ o.dict = none ∧ H' = upd H T (.frz o (.tup ys)) ∧ ∀ n xss, SrcN K H n ks xss → All2 (fun (xs : List V) y => xs[i]? = some y) xss ys,
    fun i H => ∃ xss, SrcN K H i ks xss⟩
section
variable {X : Cx} {pins : List (Addr × Obj)} {σ : L2.St} {H : Hp} { s : Shared }
theorem SrcN.inj (iv : L2.Inv X pins σ H s) {n n' : Nat} : ∀ {ks : List SK} {xss yss : List (List V)}, SrcN X.K H n ks xss → SrcN X.K H n' ks yss → xss = yss
  | _, _, _, .nil, .nil => rfl
  | _, _, _, .cons a h, .cons b h' => by rw [SK.inj iv a.1 b.1, SrcN.inj iv h h']
/-- the iterators of the library -/
theorem draws_all (iv : L2.Inv X pins σ H s) (clm : X.calm = true) {n : Nat} : ∀ {J : List (SK × Addr)} {xss : List (List V)}, (∀ p ∈ J, p.1.off p.2) → SrcN X.K H n (J.map (·.1)) xss →
    ∃ L : List ItZ, All2 (fun (p : SK × Addr) (d : ItZ) => d.it = p.2 ∧ ∃ xs : List V, xs.length = n ∧ p.1.src X.K H xs ∧ SDr X p.1 p.2 xs s.heap d.fp d.P d.St) J L
  | [], _, _, _ => ⟨[], .nil⟩
  | p :: J, _, ho, .cons a h => by
    obtain ⟨L, hL⟩ := draws_all iv clm (fun q hq => ho q (by simp [hq])) h
    obtain ⟨fp, P, St, D⟩ := SK.draws iv clm a.1 p.2 (ho p (by simp))
    exact ⟨⟨p.2, fp, P, St⟩ :: L, .cons ⟨rfl, _, a.2, a.1, D⟩ hL⟩
theorem its_eq {R : (SK × Addr) → ItZ → Prop} (hr : ∀ p d, R p d → d.it = p.2) : ∀ {J : List (SK × Addr)} {L : List ItZ}, All2 R J L → (L.map fun d => Value.ref d.it) = J.map fun p => Value.ref p.2
  | _, _, .nil => rfl
  | _, _, .cons r h => by rw [List.map_cons, List.map_cons, its_eq hr h, hr _ _ r]
/-- the values that are drawn -/
theorem drawn_vals (iv : L2.Inv X pins σ H s) {n i : Nat} : ∀ {J : List (SK × Addr)} {L : List ItZ} {us : List Value}, All2 (fun (p : SK × Addr) (d : ItZ) => d.it = p.2 ∧ ∃ xs : List V, xs.length = n ∧ p.1.src X.K H xs ∧ SDr X p.1 p.2 xs s.heap d.fp d.P d.St) J L → All2 (fun (d : ItZ) x => d.P i x) L us →
    ∃ ys, Vals ys us ∧ ∀ n' xss, SrcN X.K H n' (J.map (·.1)) xss → All2 (fun (xs : List V) y => xs[i]? = some y) xss ys
  | _, _, _, .nil, .nil => ⟨[], .nil, fun n' xss h => by cases h; exact .nil⟩
  | _, _, _, .cons ⟨_, xs, _, hs, D⟩ h, .cons p q => by
    obtain ⟨ys, r, g⟩ := drawn_vals iv h q
    obtain ⟨y, gy, ry⟩ := D.val i _ p
    refine ⟨y :: ys, .cons ry r, fun n' xss hx => ?_⟩
    cases hx with
    | cons a hx => exact .cons (by rw [SK.inj iv a.1 hs]; exact gy) (g n' _ hx)
end
theorem vals_len {xs : List V} {us : List Value} (h : Vals xs us) : xs.length = us.length := h.length
theorem turn_zipN {P : Program} {w : World} {K : PySem.W.Frag} {tg : Expr} {J : List (SK × Addr)} {z TI TO : Addr} (C : CellsN z TI TO J) (hJ : J ≠ []) (hsz : J.length ≤ sizeLine) :
    Turn P w K tg (ItN K (J.map (·.1))) (z :: TI :: TO :: J.map (·.2)) z (fun i h => (∃ own f, (own = .none ∨ ∃ a : Nat, own = rawInt a) ∧ ZipO h z TI TO own f) ∧ TupN h TI (J.map fun p => .ref p.2) ∧ (∃ olds, olds.length = J.length ∧ TupN h TO olds) ∧ ∀ p ∈ J, p.1.at p.2 i h) where
  mem := by simp
  obj := fun i h sta c clm => by
    obtain ⟨⟨own, f, _, hz⟩, tiH, ⟨olds, _, toH⟩, hat⟩ := sta
    rcases List.mem_cons.mp clm with q | clm
    · rw [q]; exact ⟨_, hz, fun _ q => nomatch q⟩
    rcases List.mem_cons.mp clm with q | clm
    · rw [q]; exact ⟨_, tiH, fun v q => nomatch q⟩
    rcases List.mem_cons.mp clm with q | clm
    · rw [q]; exact ⟨_, toH, fun v q => nomatch q⟩
    obtain ⟨p, hp, rfl⟩ := List.mem_map.mp clm
    exact SK.at_obj (hat p hp)
  keep := fun i h h' sta k => by
    obtain ⟨⟨own, f, ho, hz⟩, tiH, ⟨olds, hl, toH⟩, hat⟩ := sta
    exact ⟨⟨own, f, ho, k z (by simp) _ hz⟩, k TI (by simp) _ tiH, ⟨olds, hl, k TO (by simp) _ toH⟩, fun p hp => SK.at_at (hat p hp) fun o q => k p.2 (List.mem_cons_of_mem _ (List.mem_cons_of_mem _ (List.mem_cons_of_mem _ (List.mem_map_of_mem hp)))) o q⟩
  item := by
    intro X hP hw hK clm i pins s σ H E iv fpo sta goH
    subst hP hw hK
    obtain ⟨⟨own, f, ho, hz⟩, tiH, ⟨olds, hl, toH⟩, hat⟩ := sta
    obtain ⟨n, xss, hsrc, hlt⟩ := goH
    have mJ : ∀ p ∈ J, p.2 ∈ z :: TI :: TO :: J.map (·.2) := fun p hp => List.mem_cons_of_mem _ (List.mem_cons_of_mem _ (List.mem_cons_of_mem _ (List.mem_map_of_mem hp)))
    obtain ⟨L, hL⟩ := draws_all iv clm (fun p hp => C.off p hp p.2 (mJ p hp)) hsrc
    have hits : (L.map fun d => Value.ref d.it) = J.map fun p => Value.ref p.2 := its_eq (fun p d h => h.1) hL
    have hll := hL.len
    have nd := C.nd
    obtain ⟨n1, nd⟩ := List.pairwise_cons.mp nd
    obtain ⟨n2, nd⟩ := List.pairwise_cons.mp nd
    obtain ⟨n3, nd⟩ := List.pairwise_cons.mp nd
    have S : ZSep z TI TO L := by
      refine ⟨(n1 TI (by simp)).symm, (n1 TO (by simp)).symm, n2 TO (by simp), fun d hd => ?_, ?_⟩
      · obtain ⟨p, hp, e, xs, _, _, D⟩ := hL.memR hd
        have h2 : p.2 ∈ J.map (·.2) := List.mem_map_of_mem hp
        rw [e]
        exact ⟨D.mem, D.out _ (n1 p.2 (List.mem_cons_of_mem _ (List.mem_cons_of_mem _ h2))) (C.off p hp _ (by simp)), D.out _ (n3 p.2 h2) (C.off p hp _ (by simp)), n2 p.2 (List.mem_cons_of_mem _ h2)⟩
      · have nd' : J.Pairwise fun a b => (a ∈ J ∧ b ∈ J) ∧ a.2 ≠ b.2 := by
          have q : J.Pairwise fun a b => a.2 ≠ b.2 := List.pairwise_map.mp nd
          exact q.imp_of_mem fun ha hb h => ⟨⟨ha, hb⟩, h⟩
        refine hL.pair (fun a a' b b' hs hr hr' => ?_) nd'
        obtain ⟨⟨ma, ma'⟩, hne⟩ := hs
        obtain ⟨e, xs, _, _, D⟩ := hr
        obtain ⟨e', xs', _, _, D'⟩ := hr'
        rw [e, e']
        exact ⟨D'.out _ hne (C.off a' ma' _ (mJ a ma)), D.out _ (Ne.symm hne) (C.off a ma _ (mJ a' ma'))⟩
    have DD : ∀ d ∈ L, Draws X.prog X.w X.A.in1 d.it d.fp n d.P d.St := fun d hd => by
      obtain ⟨p, hp, e, xs, en, _, D⟩ := hL.memR hd
      rw [e, ← en]
      exact D.d
    have hLne : L ≠ [] := fun q => hJ (List.length_eq_zero_iff.mp (by rw [hll, q]; rfl))
    have hltc : ∀ b ∈ z :: TI :: TO :: J.map (·.2), b < s.heap.objs.size := fun c clm => by
      rcases List.mem_cons.mp clm with q | clm
      · rw [q]; exact Heap.lt_size hz
      rcases List.mem_cons.mp clm with q | clm
      · rw [q]; exact Heap.lt_size tiH
      rcases List.mem_cons.mp clm with q | clm
      · rw [q]; exact Heap.lt_size toH
      obtain ⟨p, hp, rfl⟩ := List.mem_map.mp clm
      obtain ⟨_, e, _⟩ := SK.at_obj (hat p hp)
      exact Heap.lt_size e
    have ltZ : z < s.heap.objs.size := hltc z (by simp)
    have notIt : ∀ c, c ∉ z :: TI :: TO :: J.map (·.2) → ∀ d ∈ L, c ≠ d.it := fun c hc d hd q => by
      obtain ⟨p, hp, e, _⟩ := hL.memR hd
      exact hc (by rw [q, e]; exact mJ p hp)
    refine pyNext_zipN_item S DD hLne (by rw [hl, hll]) (by rw [← hll]; exact hsz) hz ho (by rw [hits]; exact tiH) toH (fun d hd => ?_) hlt fun us h' tk own' f' hus ho' zA ⟨olds', hl', TO'⟩ st' hT szh kpt => ?_
    · obtain ⟨p, hp, e, xs, en, _, D⟩ := hL.memR hd
      exact D.sta i (hat p hp)
    obtain ⟨ys, rv, hys⟩ := drawn_vals iv hL hus
    refine ⟨_, rfl, letGo_zip (s := { s with heap := h', toks := tk }) zA ho' fun h'' own'' ho'' zB sbu => ?_⟩
    have hlen : us.length = J.length := by rw [← hus.len, hll]
    have tyo : h''.get? s.heap.objs.size = some { cls := .type "tuple", data := .seq us.toArray } := (sbu.2 _ (Nat.ne_of_gt ltZ)).trans hT
    have neu : ObjOk X.prog X.w (upd H s.heap.objs.size (.frz { cls := .type "tuple", data := .seq us.toArray } (.tup ys))) h'' s.heap.objs.size (.frz { cls := .type "tuple", data := .seq us.toArray } (.tup ys)) :=
      ⟨tyo, by show ys.length ≤ sizeLine; rw [rv.length, hlen]; exact hsz, us, rv, ⟨_, tyo, rfl, _, rfl⟩⟩
    have iv1 : L2.Inv X pins σ _ { s with heap := h'', toks := tk } :=
      iv.turnedNew (ch := z :: TI :: TO :: J.map (·.2)) (fun c o hb q => (sbu.2 c (fun q' => hb (by simp [q']))).trans (kpt c o (fun q' => hb (by simp [q'])) (fun q' => hb (by simp [q'])) (notIt c hb) q)) fpo (Nat.le_refl _) neu
    refine ⟨.ref s.heap.objs.size, _, iv1, rfl, ⟨_, _, ys, rfl, iv.hok.fresh (Nat.le_refl _), rfl, rfl, fun n' xss' h => hys n' xss' h⟩, ⟨⟨own'', f', ho'', zB⟩, ?_, ⟨olds', by rw [hl', hll], ?_⟩, fun p hp => ?_⟩, fun c hcm => ?_⟩
    · refine (sbu.2 _ S.TIz).trans (kpt _ _ S.TIz S.TITO (fun d hd => (S.one d hd).2.2.2) tiH)
    · exact (sbu.2 _ S.TOz).trans TO'
    · obtain ⟨d, hd, e, xs, _, _, D⟩ := hL.memL hp
      refine SK.at_at (D.at_ _ _ (st' d hd)) fun o q => (sbu.2 _ ?_).trans q
      exact (n1 p.2 (List.mem_cons_of_mem _ (List.mem_cons_of_mem _ (List.mem_map_of_mem hp)))).symm
    · rw [upd_ne (Nat.ne_of_lt (hltc c hcm))]
      exact (fpo c hcm).1
  done := by
    intro X hP hw hK clm i pins s σ H E iv fpo sta goH
    subst hP hw hK
    obtain ⟨⟨own, f, ho, hz⟩, tiH, ⟨olds, hl, toH⟩, hat⟩ := sta
    obtain ⟨xss, hsrc⟩ := goH
    have mJ : ∀ p ∈ J, p.2 ∈ z :: TI :: TO :: J.map (·.2) := fun p hp => List.mem_cons_of_mem _ (List.mem_cons_of_mem _ (List.mem_cons_of_mem _ (List.mem_map_of_mem hp)))
    obtain ⟨L, hL⟩ := draws_all iv clm (fun p hp => C.off p hp p.2 (mJ p hp)) hsrc
    have hits : (L.map fun d => Value.ref d.it) = J.map fun p => Value.ref p.2 := its_eq (fun p d h => h.1) hL
    have hll := hL.len
    have nd := C.nd
    obtain ⟨n1, nd⟩ := List.pairwise_cons.mp nd
    obtain ⟨n2, nd⟩ := List.pairwise_cons.mp nd
    obtain ⟨n3, nd⟩ := List.pairwise_cons.mp nd
    have S : ZSep z TI TO L := by
      refine ⟨(n1 TI (by simp)).symm, (n1 TO (by simp)).symm, n2 TO (by simp), fun d hd => ?_, ?_⟩
      · obtain ⟨p, hp, e, xs, _, _, D⟩ := hL.memR hd
        have h2 : p.2 ∈ J.map (·.2) := List.mem_map_of_mem hp
        rw [e]
        exact ⟨D.mem, D.out _ (n1 p.2 (List.mem_cons_of_mem _ (List.mem_cons_of_mem _ h2))) (C.off p hp _ (by simp)), D.out _ (n3 p.2 h2) (C.off p hp _ (by simp)), n2 p.2 (List.mem_cons_of_mem _ h2)⟩
      · have nd' : J.Pairwise fun a b => (a ∈ J ∧ b ∈ J) ∧ a.2 ≠ b.2 := by
          have q : J.Pairwise fun a b => a.2 ≠ b.2 := List.pairwise_map.mp nd
          exact q.imp_of_mem fun ha hb h => ⟨⟨ha, hb⟩, h⟩
        refine hL.pair (fun a a' b b' hs hr hr' => ?_) nd'
        obtain ⟨⟨ma, ma'⟩, hne⟩ := hs
        obtain ⟨e, xs, _, _, D⟩ := hr
        obtain ⟨e', xs', _, _, D'⟩ := hr'
        rw [e, e']
        exact ⟨D'.out _ hne (C.off a' ma' _ (mJ a ma)), D.out _ (Ne.symm hne) (C.off a ma _ (mJ a' ma'))⟩
    have DD : ∀ d ∈ L, Draws X.prog X.w X.A.in1 d.it d.fp i d.P d.St := fun d hd => by
      obtain ⟨p, hp, e, xs, en, _, D⟩ := hL.memR hd
      rw [e, ← en]
      exact D.d
    have hLne : L ≠ [] := fun q => hJ (List.length_eq_zero_iff.mp (by rw [hll, q]; rfl))
    have notIt : ∀ c, c ∉ z :: TI :: TO :: J.map (·.2) → ∀ d ∈ L, c ≠ d.it := fun c hc d hd q => by
      obtain ⟨p, hp, e, _⟩ := hL.memR hd
      exact hc (by rw [q, e]; exact mJ p hp)
    refine pyNext_zipN_end S DD hLne hz ho (by rw [hits]; exact tiH) toH (fun d hd => ?_) fun h' kpt => ⟨rfl, ?_⟩
    · obtain ⟨p, hp, e, xs, en, _, D⟩ := hL.memR hd
      exact D.sta i (hat p hp)
    exact iv.turnedL (t' := s.toks) (ch := z :: TI :: TO :: J.map (·.2)) (fun c o hb q => kpt c o (fun q' => hb (by simp [q'])) (fun q' => hb (by simp [q'])) (notIt c hb) q) fpo
  self := fun A i s Q E sta h => let ⟨⟨_, _, _, hz⟩, _⟩ := sta; pyIter_zipO hz h
end Vl
end
section
set_option autoImplicit false
set_option maxRecDepth 100000
/-! V34: zip(*xs) as what is walked, with its denotation. -/
namespace Vl
open PySem L2 PySem.W PySem.Calls PyProof.Rows PySem.SeqAt

theorem looksM {M : Model} {h : Heap} {T : String} : Looks M h (keeperOf (.type T)) .machine := Looks.of_pure rfl
theorem callWith_typeS {M : Model} {A : Around} {E : Value → Shared → Prop} {s : Shared} {env : PySem.Env} {pos p : Pos} {T : String} {e : Expr} {Q : Value → Shared → Prop}
    (h : wpAny M A (eval e env) (fun v s₁ => StarOf M A E v (fun vs s₂ => wpAny M A (call (.type T) vs) Q E s₂) s₁) E s)
    (he : starEach [.Starred e p] env = [(true, eval e env)] := by exact rfl) :
    wpAny M A (callWith pos (.type T) [] (backTo pos (starEach [.Starred e p] env)) []) Q E s := by
  rw [he]
  refine ks_call (P := fun _ => True) rfl (fun h _ => ⟨.machine, .inr (.inl rfl), looksM⟩) (ks_lone ?_)
  refine wpAny_mono h (fun v s1 h1 => ?_) fun _ _ x => x
  unfold StarOf at h1 ⊢
  refine wpAny_mono h1 (fun b s2 h2 => ⟨h2.1, wpAny_mono h2.2 (fun vs s3 h3 => ⟨trivial, h3⟩) fun _ _ x => x⟩) fun _ _ x => x

/-- what zip is given: a thing, its items, its kind -/
def iZipN (K : PySem.W.Frag) (te : TE) : TI := fun σ H R => te σ H fun y H1 => ∃ a ws, y = .ref a ∧ (SqT K H1 a ws ∨ SqL K H1 a ws) ∧ ws ≠ [] ∧ ws.length ≤ sizeLine ∧
  ∃ qs : List (List V × K3), All2 (fun w q => SrcV K H1 w q.1 q.2) ws qs ∧ ∀ ks, All2 (fun (k : SK) (p : V × List V × K3) => SkV k p.1 p.2.2) ks (ws.zip qs) → R (ItN K ks) H1
section
variable {X : Cx} {pins : List (Addr × Obj)} {σ : L2.St} {H : Hp} { s : Shared }
theorem kinds_all (iv : L2.Inv X pins σ H s) : ∀ {ws : List V} {us : List Value} {qs : List (List V × K3)}, Vals ws us → All2 (fun w q => SrcV X.K H w q.1 q.2) ws qs →
    ∃ ks : List SK, us = ks.map SK.val ∧ All2 (fun (k : SK) (p : V × List V × K3) => SkV k p.1 p.2.2) ks (ws.zip qs) ∧ (∀ k ∈ ks, ∀ c, s.heap.objs.size ≤ c → k.off c) ∧ BegAll s.heap us (ks.map SK.obj) ∧ (∀ k ∈ ks, ∀ (h' : Heap) (it : Addr), h'.get? it = some k.obj → k.at it 0 h')
  | _, _, _, .nil, .nil => ⟨[], rfl, .nil, fun _ h => (nomatch h), rfl, fun _ h => (nomatch h)⟩
  | _, _, _, .cons r rs, .cons (b := q) h hs => by
    obtain ⟨ks, e, a, o, B, t⟩ := kinds_all iv rs hs
    obtain ⟨k, ek, hk, src, off⟩ := SrcV.kindV iv h r
    obtain ⟨Hh, b, bh, hat⟩ := SK.begins1 iv src
    refine ⟨k :: ks, by rw [List.map_cons, ek, e], .cons hk a, fun k' hk' => ?_, ⟨k.obj, _, Hh, rfl, by rw [← ek]; exact b, bh, B⟩, fun k' hk' => ?_⟩
    · rcases List.mem_cons.mp hk' with rfl | hk'
      · exact off
      · exact o k' hk'
    · rcases List.mem_cons.mp hk' with rfl | hk'
      · exact hat
      · exact t k' hk'
end
/-- addresses from n on -/
def withAt (n : Nat) : List SK → List (SK × Addr)
  | [] => []
  | k :: ks => (k, n) :: withAt (n + 1) ks
theorem withAt_fst : ∀ (ks : List SK) (n : Nat), (withAt n ks).map (·.1) = ks
  | [], _ => rfl
  | k :: ks, n => by rw [withAt, List.map_cons, withAt_fst ks]
theorem withAt_len : ∀ (ks : List SK) (n : Nat), (withAt n ks).length = ks.length
  | [], _ => rfl
  | k :: ks, n => by rw [withAt, List.length_cons, withAt_len ks, List.length_cons]
theorem withAt_snd : ∀ (ks : List SK) (n : Nat), (withAt n ks).map (·.2) = List.range' n ks.length
  | [], _ => rfl
  | k :: ks, n => by rw [withAt, List.map_cons, withAt_snd ks, List.length_cons, List.range'_succ]
theorem withAt_mem : ∀ {ks : List SK} {n : Nat} {p : SK × Addr}, p ∈ withAt n ks → ∃ j, ks[j]? = some p.1 ∧ p.2 = n + j
  | k :: ks, n, p, h => by
    rcases (List.mem_cons.mp h) with rfl | h
    · exact ⟨0, rfl, rfl⟩
    · obtain ⟨j, a, b⟩ := withAt_mem h
      exact ⟨j + 1, by simpa using a, b.trans (by show (n + 1 + j : Nat) = n + (j + 1); omega)⟩
theorem pi_zipS {X : Cx} {tg e : Expr} {te : TE} {p pos spos : Pos} (goH : Gl X "zip") (mgE : X.mg "zip" = none) (ha : PE X e te) (hst : starEach [.Starred e spos] X.env = [(true, eval e X.env)] := by rfl) :
    PI X tg (.Call (.Name "zip" p) [.Starred e spos] [] pos) (iZipN X.K te) := by
  refine ⟨fun pins s σ H R iv h => ?_⟩
  refine Call_ (ld_blt iv goH mgE boot_zip (callWith_typeS (thn (ha.run pins s σ H _ iv h) fun v s1 ⟨y, H1, iv1, ry, a, ws, ey, hx, hne, hz, qs, hq, q⟩ => ?_) hst))
  subst ey
  obtain rfl : v = Value.ref a := (ry)
  refine StX.star_any iv1 hx fun us s2 iv2 rv => ?_
  obtain ⟨ks, eu, hks, off, B, hat⟩ := kinds_all iv2 rv hq
  have ul : us.length = ks.length := by rw [eu, List.length_map]
  obtain ⟨u, us', rfl⟩ : ∃ u us', us = u :: us' := by
    cases us with
    | nil => exact absurd (List.length_eq_zero_iff.mp rv.length) hne
    | cons a b => exact ⟨a, b, rfl⟩
  refine zip_beginsN (by rw [← rv.length]; exact hz) B fun h' hz' tiH toH hit kpt => pyIter_zipO hz' ?_
  have iv3 : L2.Inv X pins σ H1 { s2 with heap := h' } := iv2.kept (t' := s2.toks) kpt
  have ol : (ks.map SK.obj).length = ks.length := List.length_map _
  rw [ol] at hz' tiH toH ⊢
  generalize eN : s2.heap.objs.size = N at *
  have eJ : ((withAt N ks).map fun p => Value.ref p.2) = refsFrom N ks.length := by
    have : ((withAt N ks).map fun p => Value.ref p.2) = ((withAt N ks).map (·.2)).map Value.ref := by rw [List.map_map]; rfl
    rw [this, withAt_snd]; rfl
  have inC : ∀ c ∈ (N + ks.length + 2) :: (N + ks.length) :: (N + ks.length + 1) :: (withAt N ks).map (·.2), N ≤ c := fun c hc => by
    rw [withAt_snd] at hc
    rcases List.mem_cons.mp hc with q | hc
    · omega
    rcases List.mem_cons.mp hc with q | hc
    · omega
    rcases List.mem_cons.mp hc with q | hc
    · omega
    exact (List.mem_range'_1.mp hc).1
  have C : CellsN (N + ks.length + 2) (N + ks.length) (N + ks.length + 1) (withAt N ks) := by
    refine ⟨?_, fun p hp c hc => ?_⟩
    · rw [withAt_snd]
      refine List.pairwise_cons.mpr ⟨fun c hc => ?_, List.pairwise_cons.mpr ⟨fun c hc => ?_, List.pairwise_cons.mpr ⟨fun c hc => ?_, List.nodup_range'⟩⟩⟩
      · rcases List.mem_cons.mp hc with q | hc
        · rw [q]; show (N + ks.length + 2 : Nat) ≠ N + ks.length; omega
        rcases List.mem_cons.mp hc with q | hc
        · rw [q]; show (N + ks.length + 2 : Nat) ≠ N + ks.length + 1; omega
        have := (List.mem_range'_1.mp hc).2
        exact Nat.ne_of_gt (by omega)
      · rcases List.mem_cons.mp hc with q | hc
        · rw [q]; show (N + ks.length : Nat) ≠ N + ks.length + 1; omega
        have := (List.mem_range'_1.mp hc).2
        exact Nat.ne_of_gt (by omega)
      · have := (List.mem_range'_1.mp hc).2
        exact Nat.ne_of_gt (by omega)
    · obtain ⟨j, ej, _⟩ := withAt_mem hp
      exact off p.1 (List.mem_of_getElem? ej) c (inC c hc)
  have hJ : withAt N ks ≠ [] := fun z => by
    have := congrArg List.length z
    rw [withAt_len, ← ul] at this
    simp at this
  have T := turn_zipN (P := X.prog) (w := X.w) (K := X.K) (tg := tg) C hJ (by rw [withAt_len, ← ul, ← rv.length]; exact hz)
  rw [withAt_fst] at T
  refine ⟨N + ks.length + 2, _, _, _, H1, rfl, iv3, T, ⟨⟨_, _, .inl rfl, hz'⟩, by rw [eJ]; exact tiH, ⟨_, by rw [List.length_map, refs_len, withAt_len], toH⟩, fun p hp => ?_⟩, fun c hc => ?_, q ks hks⟩
  · obtain ⟨j, ej, e2⟩ := withAt_mem hp
    rw [e2]
    exact hat p.1 (List.mem_of_getElem? ej) h' _ (hit j _ (by rw [List.getElem?_map, ej]; rfl))
  · have leb := inC c hc
    rw [← eN] at leb
    exact iv2.fpOk leb (iv2.hok.fresh leb)
/-! ### the denotation -/
def walkAll : List D → Option (List (List D))
  | [] => some []
  | d :: ds => (walkD d).bind fun as => (walkAll ds).bind fun r => some (as :: r)
def rowsD (ass : List (List D)) (n : Nat) : List D := (List.range n).map fun i => .tuple (ass.map fun as => as.getD i .none)
def zipAllD (ds : List D) : Option (List D) := match walkAll ds with
  | some (as :: ass) => if ass.all (fun b => decide (b.length = as.length)) && decide (ds.length ≤ 16777216) then some (rowsD (as :: ass) as.length) else none
  | _ => none
def itZN (f : Env → M D) : Env → M (List D) := fun env => bnd (f env) fun
  | .list ds => orNo (zipAllD ds)
  | .tuple ds => orNo (zipAllD ds)
  | _ => no
theorem walkAll_len : ∀ {ds : List D} {ass : List (List D)}, walkAll ds = some ass → ass.length = ds.length
  | [], _, h => by cases h; rfl
  | d :: ds, ass, h => by
    unfold walkAll at h
    cases h1 : walkD d with
    | none => (rw [h1] at h; cases h)
    | some as =>
      rw [h1] at h
      cases h2 : walkAll ds with
      | none => rw [h2] at h; cases h
      | some r => rw [h2] at h; cases h; rw [List.length_cons, List.length_cons, walkAll_len h2]
theorem zipAll_of {ds rows : List D} (h : zipAllD ds = some rows) : ∃ ass n, walkAll ds = some ass ∧ (∀ as ∈ ass, as.length = n) ∧ ass ≠ [] ∧ ds.length ≤ 16777216 ∧ rows = rowsD ass n := by
  unfold zipAllD at h
  cases hw : walkAll ds with
  | none => rw [hw] at h; cases h
  | some ass =>
    rw [hw] at h
    cases ass with
    | nil => cases h
    | cons as ass =>
      change (if _ then _ else _) = some rows at h
      by_cases c : (ass.all (fun b => decide (b.length = as.length)) && decide (ds.length ≤ 16777216)) = true
      · rw [if_pos c] at h
        cases h
        obtain ⟨c1, c2⟩ := (Bool.and_eq_true _ _).mp c |> fun h => h
        refine ⟨_, as.length, rfl, fun b hb => ?_, by simp, of_decide_eq_true c2, rfl⟩
        rcases (List.mem_cons.mp hb) with rfl | hb
        · rfl
        · exact of_decide_eq_true (List.all_eq_true.mp c1 b hb)
      · rw [if_neg c] at h; cases h
section
variable {K : PySem.W.Frag} {A : AS} {H : Hp}
theorem srcs_all : ∀ {ds : List D} {ws : List V} {ass : List (List D)}, walkAll ds = some ass → Reps K A H ds ws → ∃ qs : List (List V × K3), All2 (fun w q => SrcV K H w q.1 q.2) ws qs ∧ All2 (fun (q : List V × K3) d => q.2 = k3 d) qs ds
  | [], _, _, _, r => by rw [show _ = [] from r]; exact ⟨[], .nil, .nil⟩
  | d :: ds, ws, ass, h, ⟨w, r, e, h1, h2⟩ => by
    subst e
    unfold walkAll at h
    cases hw : walkD d with
    | none => rw [hw] at h; cases h
    | some as =>
      rw [hw] at h
      cases hw2 : walkAll ds with
      | none => rw [hw2] at h; cases h
      | some r2 =>
        obtain ⟨xs, hx⟩ := walk_src hw h1
        obtain ⟨qs, a, b⟩ := srcs_all hw2 h2
        exact ⟨(xs, k3 d) :: qs, .cons hx a, .cons rfl b⟩
/-- the sources, later -/
theorem srcs_later {n : Nat} : ∀ {ds : List D} {ws : List V} {ass : List (List D)} {ks : List SK} {qs : List (List V × K3)}, walkAll ds = some ass → (∀ as ∈ ass, as.length = n) → All2 (fun (k : SK) (p : V × List V × K3) => SkV k p.1 p.2.2) ks (ws.zip qs) → All2 (fun (q : List V × K3) d => q.2 = k3 d) qs ds →
    ws.length = ds.length → (∀ g ∈ ws.zip ds, Rep K A H g.2 g.1) → ∃ xss, SrcN K H n ks xss ∧ All2 (fun xs as => Reps K A H as xs) xss ass
  | [], ws, ass, ks, qs, h, hl, hk, hq, hlen, hg => by
    cases h
    cases hq
    cases ws with
    | nil => cases hk; exact ⟨[], .nil, .nil⟩
    | cons _ _ => simp at hlen
  | d :: ds, ws, ass, ks, qs, h, hl, hk, hq, hlen, hg => by
    unfold walkAll at h
    cases hw : walkD d with
    | none => rw [hw] at h; cases h
    | some as =>
      rw [hw] at h
      cases hw2 : walkAll ds with
      | none => rw [hw2] at h; cases h
      | some r2 =>
        rw [hw2] at h
        cases h
        cases hq with
        | cons eq hq =>
          cases ws with
          | nil => simp at hlen
          | cons w ws =>
            rw [List.zip_cons_cons] at hk
            cases hk with
            | cons k1 hk =>
              obtain ⟨ys, s1, r1⟩ := walk_sk hw (by rw [← eq]; exact k1) (hg (w, d) (by simp))
              obtain ⟨xss, s2, r2⟩ := srcs_later hw2 (fun as h => hl as (by simp [h])) hk hq (by simpa using hlen) (fun g h => hg g (by rw [List.zip_cons_cons]; exact List.mem_cons_of_mem _ h))
              exact ⟨ys :: xss, .cons ⟨s1, by rw [r1.length]; exact hl as (by simp)⟩ s2, .cons r1 r2⟩
theorem getD_of {as : List D} {i : Nat} {d : D} (h : as[i]? = some d) : as.getD i .none = d := by
  rw [List.getD_eq_getElem?_getD, h]; rfl
theorem rows_reps {i : Nat} : ∀ {ass : List (List D)} {xss : List (List V)} {ys : List V}, All2 (fun xs as => Reps K A H as xs) xss ass → All2 (fun (xs : List V) y => xs[i]? = some y) xss ys → Reps K A H (ass.map fun as => as.getD i .none) ys
  | _, _, _, .nil, .nil => rfl
  | _, _, _, .cons r h, .cons e g => by
    obtain ⟨d, hd, rd⟩ := r.get e
    refine ⟨_, _, rfl, ?_, rows_reps h g⟩
    show Rep K A H (List.getD _ i .none) _
    rw [getD_of hd]
    exact rd
end
theorem reps_zip {K : PySem.W.Frag} {A : AS} {H : Hp} : ∀ {ds : List D} {ws : List V}, Reps K A H ds ws → ∀ g ∈ ws.zip ds, Rep K A H g.2 g.1
  | [], ws, h, g, hg => by simp at hg
  | d :: ds, ws, ⟨w, r, e, h1, h2⟩, g, hg => by
    subst e
    rw [List.zip_cons_cons] at hg
    rcases (List.mem_cons.mp hg) with rfl | hg
    · exact h1
    · exact reps_zip h2 g hg
theorem it_zipN {K : PySem.W.Frag} {ds : List D} {ws : List V} {ass : List (List D)} {ks : List SK} {qs : List (List V × K3)} {n : Nat} (h : walkAll ds = some ass) (hl : ∀ as ∈ ass, as.length = n) (hk : All2 (fun (k : SK) (p : V × List V × K3) => SkV k p.1 p.2.2) ks (ws.zip qs))
    (hq : All2 (fun (q : List V × K3) d => q.2 = k3 d) qs ds) (hlen : ws.length = ds.length) : ItOk K (ItN K ks) (ws.zip ds) (rowsD ass n) := fun W A σ H env P k0 goH => by
  obtain ⟨xss, s1, r1⟩ := srcs_later h hl hk hq hlen goH
  have lr : (rowsD ass n).length = n := by simp [rowsD]
  rw [lr]
  refine ⟨⟨xss, s1⟩, fun i hi => ⟨n, xss, s1, hi⟩, fun i x H' hi aty => ?_⟩
  obtain ⟨T, o, ys, rfl, hT, ho, rfl, hy⟩ := aty
  have s := same_upd (o := .frz o (.tup ys)) hT
  refine ⟨s, .tuple (ass.map fun as => as.getD i .none), by simp [rowsD, hi], T, ys, rfl, .inl ⟨o, upd_same, ho, k0.new hT⟩, ?_⟩
  exact k0.reps (HExt.of s) (rows_reps r1 (hy n xss s1))
theorem xi_zipS {Ex : Str → Hp → Prop} {X : Cx} {tg e : Expr} {f : Env → M D} {pos p spos : Pos} (mgE : X.mg "zip" = none) (ha : XE Ex X .v e f) (goH : Gl X "zip" := by rfl) (hst : starEach [.Starred e spos] X.env = [(true, eval e X.env)] := by rfl) :
    XI Ex X tg (.Call (.Name "zip" p) [.Starred e spos] [] pos) (itZN f) := by
  obtain ⟨t, ht, q⟩ := ha
  refine ⟨_, pi_zipS goH mgE ht hst, fun W A σ H env P R k p => ?_⟩
  refine q W A σ H env P _ k ((PostG.bnd k p).mono ?_)
  rintro d _ H1 _ _ ⟨P1, e1, p1, k1, post⟩ v r
  have main : ∀ (ds : List D) (a : Addr) (ws : List V), (SqT X.K H1 a ws ∨ SqL X.K H1 a ws) → Reps X.K A H1 ds ws → PostG Ex W.pa H1 (orNo (zipAllD ds) P1) (fun b H2 => HExt W.pa H H2 → ∀ J gs, (∀ g ∈ gs, Rep X.K A H2 g.2 g.1) → ItOk X.K J gs b → R J H2) →
      ∃ a' ws', V.ref a = .ref a' ∧ (SqT X.K H1 a' ws' ∨ SqL X.K H1 a' ws') ∧ ws' ≠ [] ∧ ws'.length ≤ sizeLine ∧ ∃ qs : List (List V × K3), All2 (fun w q => SrcV X.K H1 w q.1 q.2) ws' qs ∧ ∀ ks, All2 (fun (k : SK) (p : V × List V × K3) => SkV k p.1 p.2.2) ks (ws'.zip qs) → R (ItN X.K ks) H1 := by
    intro ds a ws hs hr post
    obtain ⟨rows, hz, post⟩ := post_orNo post
    obtain ⟨ass, n, hw, hl, hne, hlen, rfl⟩ := zipAll_of hz
    obtain ⟨qs, a1, a2⟩ := srcs_all hw hr
    have wl := hr.length
    refine ⟨a, ws, rfl, hs, fun z => ?_, by rw [wl, sizeLine_eq]; exact hlen, qs, a1, fun ks hk => ?_⟩
    · have := walkAll_len hw
      rw [z] at wl
      exact hne (List.length_eq_zero_iff.mp (by rw [this, ← wl]; rfl))
    · exact post_here (a := rowsD ass n) post p1 e1 _ (ws.zip ds) (reps_zip hr) (it_zipN hw hl hk a2 wl)
  cases d with
  | list ds =>
    obtain ⟨a, ws, rfl, l, hr⟩ := r
    exact main ds a ws (.inr l.sq) hr post
  | tuple ds =>
    obtain ⟨a, ws, rfl, l, hr⟩ := r
    exact main ds a ws (.inl l.sq) hr post
  | _ => exact post.elim
end Vl
end
section
set_option maxRecDepth 100000
namespace Tk
open PySem L2 Vl
abbrev top (i : Nat) : Stmt := PySem.Challenge.pw_halfbits_k33_tables_and_tellings.main.body.getD i (.Pass ⟨0, 0, 0, 0⟩)
abbrev s__law_word : Stmt := top 52
abbrev s_is_count : Stmt := top 1
abbrev s_is_word : Stmt := top 9
abbrev s_is_word_of : Stmt := top 10
abbrev s_spelled : Stmt := top 11
abbrev s_all_words : Stmt := top 12
abbrev s_settled_words : Stmt := top 13
abbrev s_is_gate : Stmt := top 21
abbrev s_are_outs : Stmt := top 22
abbrev s_marked : Stmt := top 25
abbrev s_let_through : Stmt := top 26
abbrev s_sign_at : Stmt := top 27
abbrev s_has_rows : Stmt := top 33
abbrev s_are_alike : Stmt := top 34
abbrev s_check_inputs : Stmt := top 35
abbrev s__law_open : Stmt := top 39
abbrev s__law_spread : Stmt := top 40
abbrev s__law_take : Stmt := top 41
abbrev s__law_one_of : Stmt := top 42
abbrev s__law_all : Stmt := top 43
abbrev s__law_settled : Stmt := top 44
abbrev s__law_joined : Stmt := top 45
abbrev s__law_is_within : Stmt := top 46
abbrev s__law_any_word : Stmt := top 47
abbrev s__law_told : Stmt := top 48
abbrev s__law_run : Stmt := top 49
abbrev s__law_any_net : Stmt := top 50
abbrev s__law_bent : Stmt := top 51
abbrev s__law_is_word : Stmt := top 53
abbrev s__law_is_pair : Stmt := top 54
abbrev s__law_is_table : Stmt := top 55
abbrev s__law_odd : Stmt := top 56
abbrev s_are_gates : Stmt := top 20
abbrev s_answers_at : Stmt := top 24
abbrev s_is_table : Stmt := top 31
abbrev s_is_telling : Stmt := top 32
abbrev s_is_net : Stmt := top 19
abbrev s_check_net : Stmt := top 23
abbrev s_table_of : Stmt := top 36
abbrev s_telling_of : Stmt := top 37
abbrev s__law_wide_right : Stmt := top 57
abbrev s_law : Stmt := top 58
def tb_PARTS : List (Str × D) := [("0", (.int 1)), ("1", (.int 1)), ("not", (.int 2)), ("and", (.int 3)), ("or", (.int 3))]
structure Tp (K : PySem.W.Frag) (mg : Str → Option Value) (w : World) where
  t__law_word : FnT K mg "_law_word" s__law_word ["call"]
  t_is_count : FnT K mg "is_count" s_is_count ["thing", "least", "most"]
  t_is_word : FnT K mg "is_word" s_is_word ["thing"]
  t_is_word_of : FnT K mg "is_word_of" s_is_word_of ["thing", "bits"]
  t_spelled : FnT K mg "spelled" s_spelled ["choices"]
  t_all_words : FnT K mg "all_words" s_all_words ["bits"]
  t_settled_words : FnT K mg "settled_words" s_settled_words ["bits"]
  t_is_gate : FnT K mg "is_gate" s_is_gate ["thing", "own"]
  t_are_outs : FnT K mg "are_outs" s_are_outs ["thing", "many"]
  t_marked : FnT K mg "marked" s_marked ["words", "at", "bit"]
  t_let_through : FnT K mg "let_through" s_let_through ["gate", "stands", "everywhere"]
  t_sign_at : FnT K mg "sign_at" s_sign_at ["pair", "k"]
  t_has_rows : FnT K mg "has_rows" s_has_rows ["thing", "most"]
  t_are_alike : FnT K mg "are_alike" s_are_alike ["rows"]
  t_check_inputs : FnT K mg "check_inputs" s_check_inputs ["net", "most"]
  t__law_open : FnT K mg "_law_open" s__law_open ["script"]
  t__law_spread : FnT K mg "_law_spread" s__law_spread ["cell", "k"]
  t__law_take : FnT K mg "_law_take" s__law_take ["pen", "many"]
  t__law_one_of : FnT K mg "_law_one_of" s__law_one_of ["pen", "some"]
  t__law_all : FnT K mg "_law_all" s__law_all ["n", "bits"]
  t__law_settled : FnT K mg "_law_settled" s__law_settled ["word"]
  t__law_joined : FnT K mg "_law_joined" s__law_joined ["words"]
  t__law_is_within : FnT K mg "_law_is_within" s__law_is_within ["word", "other"]
  t__law_any_word : FnT K mg "_law_any_word" s__law_any_word ["pen", "n"]
  t__law_told : FnT K mg "_law_told" s__law_told ["word", "bits"]
  t__law_run : FnT K mg "_law_run" s__law_run ["net", "word"]
  t__law_any_net : FnT K mg "_law_any_net" s__law_any_net ["pen", "n", "most", "m"]
  t__law_bent : FnT K mg "_law_bent" s__law_bent ["pen", "value"]
  t__law_is_word : FnT K mg "_law_is_word" s__law_is_word ["thing"]
  t__law_is_pair : FnT K mg "_law_is_pair" s__law_is_pair ["thing", "most", "bits"]
  t__law_is_table : FnT K mg "_law_is_table" s__law_is_table ["thing"]
  t__law_odd : FnT K mg "_law_odd" s__law_odd ["pair"]
  t_are_gates : FnT K mg "are_gates" s_are_gates ["thing", "n"]
  t_answers_at : FnT K mg "answers_at" s_answers_at ["net", "words"]
  t_is_table : FnT K mg "is_table" s_is_table ["thing"]
  t_is_telling : FnT K mg "is_telling" s_is_telling ["thing"]
  t_is_net : FnT K mg "is_net" s_is_net ["thing"]
  t_check_net : FnT K mg "check_net" s_check_net ["thing"]
  t_table_of : FnT K mg "table_of" s_table_of ["net"]
  t_telling_of : FnT K mg "telling_of" s_telling_of ["net"]
  t__law_wide_right : FnT K mg "_law_wide_right" s__law_wide_right []
  t_law : LamT K mg "law" s_law ["script"]
  m_all : mg "all" = none
  m_any : mg "any" = none
  m_bool : mg "bool" = none
  m_dict : mg "dict" = none
  m_enumerate : mg "enumerate" = none
  m_int : mg "int" = none
  m_isinstance : mg "isinstance" = none
  m_len : mg "len" = none
  m_list : mg "list" = none
  m_range : mg "range" = none
  m_repr : mg "repr" = none
  m_sorted : mg "sorted" = none
  m_str : mg "str" = none
  m_sum : mg "sum" = none
  m_tuple : mg "tuple" = none
  m_zip : mg "zip" = none
  c_SIGNS : ∃ t, mg "SIGNS" = some (.str "01?" t)
  c_MOST_BITS : ∃ t, mg "MOST_BITS" = some (.int 32 t)
  c_MOST_INPUTS : ∃ t, mg "MOST_INPUTS" = some (.int 32 t)
  c_MOST_GATES : ∃ t, mg "MOST_GATES" = some (.int 100000 t)
  c_MOST_OUTS : ∃ t, mg "MOST_OUTS" = some (.int 32 t)
  c_MOST_TABLE_INPUTS : ∃ t, mg "MOST_TABLE_INPUTS" = some (.int 6 t)
  c_MOST_TELLING_INPUTS : ∃ t, mg "MOST_TELLING_INPUTS" = some (.int 5 t)
  e_BitError : ExT K mg "BitError"
  e_NoNet : ExT K mg "NoNet"
  e_TooGreat : ExT K mg "TooGreat"
  x_BitError_NoNet : PySem.W.exmOne K (.ref e_BitError.C) (.ref e_NoNet.C) = some false
  x_BitError_TooGreat : PySem.W.exmOne K (.ref e_BitError.C) (.ref e_TooGreat.C) = some false
  x_BitError_BitError : PySem.W.exmOne K (.ref e_BitError.C) (.ref e_BitError.C) = some true
  x_NoNet_NoNet : PySem.W.exmOne K (.ref e_NoNet.C) (.ref e_NoNet.C) = some true
  x_NoNet_TooGreat : PySem.W.exmOne K (.ref e_NoNet.C) (.ref e_TooGreat.C) = some false
  x_NoNet_BitError : PySem.W.exmOne K (.ref e_NoNet.C) (.ref e_BitError.C) = some true
  x_TooGreat_NoNet : PySem.W.exmOne K (.ref e_TooGreat.C) (.ref e_NoNet.C) = some false
  x_TooGreat_TooGreat : PySem.W.exmOne K (.ref e_TooGreat.C) (.ref e_TooGreat.C) = some true
  x_TooGreat_BitError : PySem.W.exmOne K (.ref e_TooGreat.C) (.ref e_BitError.C) = some true
  a_PARTS : Addr
  k_PARTS : TabIs K w a_PARTS tb_PARTS
  g_PARTS : mg "PARTS" = some (.ref a_PARTS)
variable {P : Program} {w : World} {K : PySem.W.Frag} {mg : Str → Option Value} { base : Heap }
def ecOf (T : Tp K mg w) : EC := fun c => if c = "BitError" then T.e_BitError.C else if c = "NoNet" then T.e_NoNet.C else if c = "TooGreat" then T.e_TooGreat.C else 0
def isaN (c d : Str) : Bool := decide ((c, d) ∈ ([("BitError", "BitError"), ("NoNet", "NoNet"), ("NoNet", "BitError"), ("TooGreat", "TooGreat"), ("TooGreat", "BitError")] : List (Str × Str)))
def cw__law_word : List (Str × Str) := [("NoNet", "net"), ("TooGreat", "great"), ("BitError", "odd")]
theorem isa__law_word (T : Tp K mg w) : ∀ c, (∃ q ∈ cw__law_word, isaN c q.1 = true) → ∀ q ∈ cw__law_word, PySem.W.exmOne K (.ref (ecOf T c)) (.ref (ecOf T q.1)) = some (isaN c q.1) := by
  rintro c ⟨q0, _, h0⟩ q hq
  have h1 := of_decide_eq_true h0
  have hc : c ∈ (["BitError", "NoNet", "TooGreat"] : List Str) := by
    simp only [List.mem_cons, Prod.mk.injEq, List.not_mem_nil, or_false] at h1 ⊢
    rcases h1 with h1 | h1 | h1 | h1 | h1 <;> simp [h1.1]
  simp only [List.mem_cons, List.not_mem_nil, or_false] at hc
  simp only [cw__law_word, List.mem_cons, List.not_mem_nil, or_false] at hq
  rcases hc with rfl | rfl | rfl <;> rcases hq with rfl | rfl | rfl
  · exact T.x_BitError_NoNet
  · exact T.x_BitError_TooGreat
  · exact T.x_BitError_BitError
  · exact T.x_NoNet_NoNet
  · exact T.x_NoNet_TooGreat
  · exact T.x_NoNet_BitError
  · exact T.x_TooGreat_NoNet
  · exact T.x_TooGreat_TooGreat
  · exact T.x_TooGreat_BitError
abbrev n__law_word : List Str := ["call", "e"]
theorem sc__law_word : FnScope n__law_word ["call"] (defScope s__law_word) := ⟨rfl, rfl, rfl, by decide +kernel, rfl, by decide +kernel, by decide +kernel⟩
def tbOf (T : Tp K mg w) : List (Addr × Str) := [(T.t_law.P, ("law" ++ ".<locals>.") ++ "<lambda>")]
def csOf (T : Tp K mg w) : List (Addr × Addr) := [(T.t_law.c, T.t_law.P)]
theorem mem_law (T : Tp K mg w) : (T.t_law.c, T.t_law.P) ∈ csOf T := by simp [csOf]
theorem tbm_law (T : Tp K mg w) : (T.t_law.P, (("law" : Str) ++ ".<locals>.") ++ "<lambda>") ∈ tbOf T := by simp [tbOf]
theorem tbu_law (T : Tp K mg w) : ∀ p ∈ tbOf T, p.1 = T.t_law.P → p.2 = (("law" : Str) ++ ".<locals>.") ++ "<lambda>" := by
  intro p hp e
  simp only [tbOf, List.mem_cons, List.not_mem_nil, or_false] at hp
  rcases hp with rfl
  · rfl
theorem htb_of (T : Tp K mg w) : ∀ p ∈ tbOf T, p.1 ∈ (csOf T).map (·.2) := by
  intro p hp
  simp only [tbOf, List.mem_cons, List.not_mem_nil, or_false] at hp
  rcases hp with rfl <;> simp [csOf]
abbrev n_is_count : List Str := ["thing", "least", "most"]
theorem sc_is_count : FnScope n_is_count ["thing", "least", "most"] (defScope s_is_count) := ⟨rfl, rfl, rfl, by decide +kernel, rfl, by decide +kernel, by decide +kernel⟩
def b_is_count : Vl.Env → M Fl := (sSeq (sIf (mOr (tTru (dIsi "bool" (bVar 0))) (mNot (tTru (dIsi "int" (bVar 0))))) (sRet (dC (.bool false))) sNil) (sRet (dChain dLe dLe (bVar 1) (bVar 0) (bVar 2))))
def den_is_count : List SV → M D := denOf 3 (b_is_count)
theorem ok_is_count (T : Tp K mg w) : FnG P w K mg base false 1 T.t_is_count.f T.t_is_count.fd ["thing", "least", "most"] (spG K (ecOf T) .v 3 (den_is_count)) := by
  refine fnG_of (k := 0) (N := n_is_count) (ps := ["thing", "least", "most"]) (body := b_is_count) T.t_is_count.F sc_is_count (.inl rfl) fun cdv A outer s H E hr hg => ?_
  exact (xs_cons (xs_if (XW.t (xw_or (xt_tru (XE.b (x_isi (T := "bool") (xb 0) (by decide) T.m_isinstance rfl T.m_bool rfl))) (xw_or1 (xt_not (xt_tru (XE.b (x_isi (T := "int") (xb 0) (by decide) T.m_isinstance rfl T.m_int rfl))))))) (xs_one (xs_ret x_bl)) xs_nil) (xs_one (xs_ret (x_chain or_le or_le od_le od_le (xb 1) (xb 0) (xb 2)))))
abbrev n_is_word : List Str := ["thing", "sign"]
theorem sc_is_word : FnScope n_is_word ["thing"] (defScope s_is_word) := ⟨rfl, rfl, rfl, by decide +kernel, rfl, by decide +kernel, by decide +kernel⟩
def b_is_word : Vl.Env → M Fl := (sSeq (sIf (mOr (mNot (tTru (dIsi "str" (bVar 0)))) (mNot (tV (dChain dLe dLe (dC (.int 1)) (dB gLen (aCons (bVar 0) aNil)) (dC (.int 32)))))) (sRet (dC (.bool false))) sNil) (sRet (dB gAll (aCons (dComp (itD (dVar 0)) (tgName 1) tsNil (d2 dInA (bVar 1) (dC (.str "01?"))) [1]) aNil))))
def den_is_word : List SV → M D := denOf 2 (b_is_word)
theorem ok_is_word (T : Tp K mg w) : FnG P w K mg base false 1 T.t_is_word.f T.t_is_word.fd ["thing"] (spG K (ecOf T) .v 1 (den_is_word)) := by
  refine fnG_of (k := 0) (N := n_is_word) (ps := ["thing"]) (body := b_is_word) T.t_is_word.F sc_is_word (.inl rfl) fun cdv A outer s H E hr hg => ?_
  exact (xs_cons (xs_if (XW.t (xw_or (xt_not (xt_tru (XE.b (x_isi (T := "str") (xb 0) (by decide) T.m_isinstance rfl T.m_str rfl)))) (xw_or1 (xt_not (xt_chain or_le or_le od_le od_le (XE.b x_int) (XE.b (x_blt call_len cd_len T.m_len rfl (xB_cons (xb 0) xB_nil))) (XE.b (x_gInt T.c_MOST_BITS))))))) (xs_one (xs_ret x_bl)) xs_nil) (xs_one (xs_ret (x_blt (cr_all rfl) cd_all T.m_all rfl (xB_cons (XE.fb (x_lc rfl sc_is_word.nd (xi_any (xv 0)) (own := [("sign", 1)]) (blkOk_by rfl) (fun _ _ _ _ _ => (xg_name 1 sc_is_word.nd)) (fun _ _ _ _ _ => xts_nil) (fun _ _ _ _ _ => (x_cmp (or_inA (roomU hr)) od_inA (xb 1) (XE.b (x_gStr T.c_SIGNS)) rfl)))) xB_nil)))))
abbrev n_is_word_of : List Str := ["thing", "bits"]
theorem sc_is_word_of : FnScope n_is_word_of ["thing", "bits"] (defScope s_is_word_of) := ⟨rfl, rfl, rfl, by decide +kernel, rfl, by decide +kernel, by decide +kernel⟩
def b_is_word_of : Vl.Env → M Fl := (sRet (vAnd (dCall 1 den_is_word (aCons (dVar 0) aNil)) (d2 dEqA (dB gLen (aCons (bVar 0) aNil)) (bVar 1))))
def den_is_word_of : List SV → M D := denOf 2 (b_is_word_of)
theorem ok_is_word_of (T : Tp K mg w) : FnG P w K mg base false 2 T.t_is_word_of.f T.t_is_word_of.fd ["thing", "bits"] (spG K (ecOf T) .v 2 (den_is_word_of)) := by
  refine fnG_of (k := 1) (N := n_is_word_of) (ps := ["thing", "bits"]) (body := b_is_word_of) T.t_is_word_of.F sc_is_word_of (.inl rfl) fun cdv A outer s H E hr hg => ?_
  exact (xs_one (xs_ret (x_and (x_call (ok_is_word T) (hr.mono (by omega)) (fun h => nomatch h) T.t_is_word.G T.t_is_word.Kp T.t_is_word.B (passX (takes_of rfl rfl rfl rfl)) (xa_cons (xv 0) xa_nil)) (x_one (x_cmp (or_eqA (roomU0 hr)) od_eqA (XE.b (x_blt call_len cd_len T.m_len rfl (xB_cons (xb 0) xB_nil))) (xb 1) rfl)))))
abbrev n_spelled : List Str := ["choices", "starts", "signs", "start", "sign"]
theorem sc_spelled : FnScope n_spelled ["choices"] (defScope s_spelled) := ⟨rfl, rfl, rfl, by decide +kernel, rfl, by decide +kernel, by decide +kernel⟩
def b_spelled : Vl.Env → M Fl := (sSeq (sOwn 1 (dLst (aCons (dC (.str "")) aNil))) (sSeq (sFor (itD (dVar 0)) (tgName 2) (sShare 1 (sOwn 1 (dComp2 (itD (dVar 1)) (tgName 3) tsNil (itD (dVar 2)) (tgName 4) tsNil (d2 dAdd (bVar 3) (bVar 4)) [3, 4] [4])))) (sRetO 1)))
def den_spelled : List SV → M D := denOf 5 (b_spelled)
theorem ok_spelled (T : Tp K mg w) : FnG P w K mg base false 1 T.t_spelled.f T.t_spelled.fd ["choices"] (spG K (ecOf T) .v 1 (den_spelled)) := by
  refine fnG_of (k := 0) (N := n_spelled) (ps := ["choices"]) (body := b_spelled) T.t_spelled.F sc_spelled (.inl rfl) fun cdv A outer s H E hr hg => ?_
  exact (xs_cons (xs_own 1 sc_spelled.nd (x_lst (xa_cons x_str xa_nil))) (xs_cons (xs_for (passes_of rfl) rfl (xi_any (xv 0)) (xg_name 2 sc_spelled.nd) (xs_share 1 (xs_one (xs_setLc2 1 [4] rfl sc_spelled.nd (xi_any (xv 1)) (own := [("start", 3), ("sign", 4)]) (blkOk_by rfl) (fun _ _ _ _ _ => (xg_name 3 sc_spelled.nd)) (fun _ _ _ _ _ => xts_nil) (fun _ _ _ _ _ => (xi_any (xv 2))) (fun _ _ _ _ _ => (xg_name 4 sc_spelled.nd)) (fun _ _ _ _ _ => xts_nil) (fun _ _ _ _ _ => (x_op or_add od_add (xb 3) (xb 4))) (old_name _) (sw_true rfl rfl rfl rfl))))) (xs_one (xs_retO 1 (by decide)))))
abbrev n_all_words : List Str := ["bits"]
theorem sc_all_words : FnScope n_all_words ["bits"] (defScope s_all_words) := ⟨rfl, rfl, rfl, by decide +kernel, rfl, by decide +kernel, by decide +kernel⟩
def b_all_words : Vl.Env → M Fl := (sRet (dCall 1 den_spelled (aCons (d2 dRep (dLst (aCons (dC (.str "01?")) aNil)) (bVar 0)) aNil)))
def den_all_words : List SV → M D := denOf 1 (b_all_words)
theorem ok_all_words (T : Tp K mg w) : FnG P w K mg base false 2 T.t_all_words.f T.t_all_words.fd ["bits"] (spG K (ecOf T) .v 1 (den_all_words)) := by
  refine fnG_of (k := 1) (N := n_all_words) (ps := ["bits"]) (body := b_all_words) T.t_all_words.F sc_all_words (.inl rfl) fun cdv A outer s H E hr hg => ?_
  exact (xs_one (xs_ret (x_call (ok_spelled T) (hr.mono (by omega)) (fun h => nomatch h) T.t_spelled.G T.t_spelled.Kp T.t_spelled.B (passX (takes_of rfl rfl rfl rfl)) (xa_cons (XE.v (x_op op_rep od_rep (XE.fb (x_lst (xa_cons (x_gStr T.c_SIGNS) xa_nil))) (xb 0))) xa_nil))))
abbrev n_settled_words : List Str := ["bits"]
theorem sc_settled_words : FnScope n_settled_words ["bits"] (defScope s_settled_words) := ⟨rfl, rfl, rfl, by decide +kernel, rfl, by decide +kernel, by decide +kernel⟩
def b_settled_words : Vl.Env → M Fl := (sRet (dCall 1 den_spelled (aCons (d2 dRep (dLst (aCons (dC (.str "01")) aNil)) (bVar 0)) aNil)))
def den_settled_words : List SV → M D := denOf 1 (b_settled_words)
theorem ok_settled_words (T : Tp K mg w) : FnG P w K mg base false 2 T.t_settled_words.f T.t_settled_words.fd ["bits"] (spG K (ecOf T) .v 1 (den_settled_words)) := by
  refine fnG_of (k := 1) (N := n_settled_words) (ps := ["bits"]) (body := b_settled_words) T.t_settled_words.F sc_settled_words (.inl rfl) fun cdv A outer s H E hr hg => ?_
  exact (xs_one (xs_ret (x_call (ok_spelled T) (hr.mono (by omega)) (fun h => nomatch h) T.t_spelled.G T.t_spelled.Kp T.t_spelled.B (passX (takes_of rfl rfl rfl rfl)) (xa_cons (XE.v (x_op op_rep od_rep (XE.fb (x_lst (xa_cons x_str xa_nil))) (xb 0))) xa_nil))))
abbrev n_is_gate : List Str := ["thing", "own", "kind", "number"]
theorem sc_is_gate : FnScope n_is_gate ["thing", "own"] (defScope s_is_gate) := ⟨rfl, rfl, rfl, by decide +kernel, rfl, by decide +kernel, by decide +kernel⟩
def b_is_gate : Vl.Env → M Fl := (sSeq (sIf (mOr (mNot (tTru (dIsi "tuple" (bVar 0)))) (tV (d2 dEqA (dB gLen (aCons (bVar 0) aNil)) (dC (.int 0))))) (sRet (dC (.bool false))) sNil) (sSeq (sSet 2 (d2 dIxA (bVar 0) (dC (.int 0)))) (sSeq (sIf (mOr (mNot (tTru (dIsi "str" (bVar 2)))) (tV (d2 dNeA (dB gLen (aCons (bVar 0) aNil)) (dKGet tb_PARTS (bVar 2) (dC (.int 0)))))) (sRet (dC (.bool false))) sNil) (sRet (dB gAll (aCons (dComp (itD (dSlice (bVar 0) (dPart (dC (.int 1))) dNoPart)) (tgName 3) tsNil (dCall 3 den_is_count (aCons (dVar 3) (aCons (dC (.int 0)) (aCons (d2 dSub (bVar 1) (dC (.int 1))) aNil)))) [3]) aNil))))))
def den_is_gate : List SV → M D := denOf 4 (b_is_gate)
theorem ok_is_gate (T : Tp K mg w) : FnG P w K mg base false 2 T.t_is_gate.f T.t_is_gate.fd ["thing", "own"] (spG K (ecOf T) .v 2 (den_is_gate)) := by
  refine fnG_of (k := 1) (N := n_is_gate) (ps := ["thing", "own"]) (body := b_is_gate) T.t_is_gate.F sc_is_gate (.inl rfl) fun cdv A outer s H E hr hg => ?_
  exact (xs_cons (xs_if (XW.t (xw_or (xt_not (xt_tru (XE.b (x_isi (T := "tuple") (xb 0) (by decide) T.m_isinstance rfl T.m_tuple rfl)))) (xw_or1 (xt_cmp (or_eqA (roomU0 hr)) od_eqA (XE.b (x_blt call_len cd_len T.m_len rfl (xB_cons (xb 0) xB_nil))) (XE.b x_int) rfl)))) (xs_one (xs_ret x_bl)) xs_nil) (xs_cons (xs_set 2 sc_is_gate.nd (x_ixA (roomU1 hr) (xb 0) (XE.b x_int))) (xs_cons (xs_if (XW.t (xw_or (xt_not (xt_tru (XE.b (x_isi (T := "str") (xb 2) (by decide) T.m_isinstance rfl T.m_str rfl)))) (xw_or1 (xt_cmp (or_neA (roomU0 hr)) od_neA (XE.b (x_blt call_len cd_len T.m_len rfl (xB_cons (xb 0) xB_nil))) (XE.b (x_kget T.k_PARTS (xb 2) x_int T.g_PARTS)) rfl)))) (xs_one (xs_ret x_bl)) xs_nil) (xs_one (xs_ret (x_blt (cr_all rfl) cd_all T.m_all rfl (xB_cons (XE.fb (x_lc rfl sc_is_gate.nd (xi_any (x_slice (xb 0) (xo_some (XE.b x_int)) xo_none)) (own := [("number", 3)]) (blkOk_by rfl) (fun _ _ _ _ _ => (xg_name 3 sc_is_gate.nd)) (fun _ _ _ _ _ => xts_nil) (fun _ _ _ _ _ => (x_call (ok_is_count T) (hr.mono (by omega)) (fun h => nomatch h) T.t_is_count.G T.t_is_count.Kp T.t_is_count.B passX0 (xa_cons (xv 3) (xa_cons x_int (xa_cons (x_op op_sub od_sub (xb 1) (XE.b x_int)) xa_nil))))))) xB_nil)))))))
abbrev n_are_outs : List Str := ["thing", "many", "number"]
theorem sc_are_outs : FnScope n_are_outs ["thing", "many"] (defScope s_are_outs) := ⟨rfl, rfl, rfl, by decide +kernel, rfl, by decide +kernel, by decide +kernel⟩
def b_are_outs : Vl.Env → M Fl := (sSeq (sIf (mOr (mNot (tTru (dIsi "tuple" (bVar 0)))) (mNot (tV (dChain dLe dLe (dC (.int 1)) (dB gLen (aCons (bVar 0) aNil)) (dC (.int 32)))))) (sRet (dC (.bool false))) sNil) (sRet (dB gAll (aCons (dComp (itD (dVar 0)) (tgName 2) tsNil (dCall 3 den_is_count (aCons (dVar 2) (aCons (dC (.int 0)) (aCons (d2 dSub (bVar 1) (dC (.int 1))) aNil)))) [2]) aNil))))
def den_are_outs : List SV → M D := denOf 3 (b_are_outs)
theorem ok_are_outs (T : Tp K mg w) : FnG P w K mg base false 2 T.t_are_outs.f T.t_are_outs.fd ["thing", "many"] (spG K (ecOf T) .v 2 (den_are_outs)) := by
  refine fnG_of (k := 1) (N := n_are_outs) (ps := ["thing", "many"]) (body := b_are_outs) T.t_are_outs.F sc_are_outs (.inl rfl) fun cdv A outer s H E hr hg => ?_
  exact (xs_cons (xs_if (XW.t (xw_or (xt_not (xt_tru (XE.b (x_isi (T := "tuple") (xb 0) (by decide) T.m_isinstance rfl T.m_tuple rfl)))) (xw_or1 (xt_not (xt_chain or_le or_le od_le od_le (XE.b x_int) (XE.b (x_blt call_len cd_len T.m_len rfl (xB_cons (xb 0) xB_nil))) (XE.b (x_gInt T.c_MOST_OUTS))))))) (xs_one (xs_ret x_bl)) xs_nil) (xs_one (xs_ret (x_blt (cr_all rfl) cd_all T.m_all rfl (xB_cons (XE.fb (x_lc rfl sc_are_outs.nd (xi_any (xv 0)) (own := [("number", 2)]) (blkOk_by rfl) (fun _ _ _ _ _ => (xg_name 2 sc_are_outs.nd)) (fun _ _ _ _ _ => xts_nil) (fun _ _ _ _ _ => (x_call (ok_is_count T) (hr.mono (by omega)) (fun h => nomatch h) T.t_is_count.G T.t_is_count.Kp T.t_is_count.B passX0 (xa_cons (xv 2) (xa_cons x_int (xa_cons (x_op op_sub od_sub (xb 1) (XE.b x_int)) xa_nil))))))) xB_nil)))))
abbrev n_marked : List Str := ["words", "at", "bit", "k", "word"]
theorem sc_marked : FnScope n_marked ["words", "at", "bit"] (defScope s_marked) := ⟨rfl, rfl, rfl, by decide +kernel, rfl, by decide +kernel, by decide +kernel⟩
def b_marked : Vl.Env → M Fl := (sRet (dB gSum (aCons (dComp (itE1 (dVar 0)) (tgTup 2 (tgCons (tgName 3) (tgCons (tgName 4) tgNil))) (tV (d2 dEqA (d2 dIxA (bVar 4) (bVar 1)) (bVar 2))) (d2 dShl (dC (.int 1)) (bVar 3)) [3, 4]) aNil)))
def den_marked : List SV → M D := denOf 5 (b_marked)
theorem ok_marked (T : Tp K mg w) : FnG P w K mg base false 1 T.t_marked.f T.t_marked.fd ["words", "at", "bit"] (spG K (ecOf T) .v 3 (den_marked)) := by
  refine fnG_of (k := 0) (N := n_marked) (ps := ["words", "at", "bit"]) (body := b_marked) T.t_marked.F sc_marked (.inl rfl) fun cdv A outer s H E hr hg => ?_
  exact (xs_one (xs_ret (x_blt (cr_sum rfl) cd_sum T.m_sum rfl (xB_cons (XE.fb (x_lc rfl sc_marked.nd (xi_enum1 T.m_enumerate (xv 0)) (own := [("k", 3), ("word", 4)]) (blkOk_by rfl) (fun _ _ _ _ _ => (xg_tup 2 rfl (xgs_cons (xg_name 3 sc_marked.nd) (xgs_cons (xg_name 4 sc_marked.nd) xgs_nil)))) (fun _ _ _ _ _ => (xts_one (xt_cmp (or_eqA (roomU0 hr)) od_eqA (XE.b (x_ixA (roomU1 hr) (xb 4) (xb 1))) (xb 2) rfl))) (fun _ _ _ _ _ => (x_op op_shl od_shl (XE.b x_int) (xb 3))))) xB_nil))))
abbrev n_let_through : List Str := ["gate", "stands", "everywhere", "kind", "ones", "zeros", "other_ones", "other_zeros"]
theorem sc_let_through : FnScope n_let_through ["gate", "stands", "everywhere"] (defScope s_let_through) := ⟨rfl, rfl, rfl, by decide +kernel, rfl, by decide +kernel, by decide +kernel⟩
def b_let_through : Vl.Env → M Fl := (sSeq (sSet 3 (d2 dIxA (bVar 0) (dC (.int 0)))) (sSeq (sIf (tV (d2 dEqA (bVar 3) (dC (.str "0")))) (sRet (dTup (aCons (dC (.int 0)) (aCons (dVar 2) aNil)))) sNil) (sSeq (sIf (tV (d2 dEqA (bVar 3) (dC (.str "1")))) (sRet (dTup (aCons (dVar 2) (aCons (dC (.int 0)) aNil)))) sNil) (sSeq (sAsg (d2 dIxA (bVar 1) (d2 dIxA (bVar 0) (dC (.int 1)))) (tgTup 2 (tgCons (tgName 4) (tgCons (tgName 5) tgNil)))) (sSeq (sIf (tV (d2 dEqA (bVar 3) (dC (.str "not")))) (sRet (dTup (aCons (dVar 5) (aCons (dVar 4) aNil)))) sNil) (sSeq (sAsg (d2 dIxA (bVar 1) (d2 dIxA (bVar 0) (dC (.int 2)))) (tgTup 2 (tgCons (tgName 6) (tgCons (tgName 7) tgNil)))) (sSeq (sIf (tV (d2 dEqA (bVar 3) (dC (.str "and")))) (sRet (dTup (aCons (d2 dBand (bVar 4) (bVar 6)) (aCons (d2 dBor (bVar 5) (bVar 7)) aNil)))) sNil) (sRet (dTup (aCons (d2 dBor (bVar 4) (bVar 6)) (aCons (d2 dBand (bVar 5) (bVar 7)) aNil)))))))))))
def den_let_through : List SV → M D := denOf 8 (b_let_through)
theorem ok_let_through (T : Tp K mg w) : FnG P w K mg base false 1 T.t_let_through.f T.t_let_through.fd ["gate", "stands", "everywhere"] (spG K (ecOf T) .v 3 (den_let_through)) := by
  refine fnG_of (k := 0) (N := n_let_through) (ps := ["gate", "stands", "everywhere"]) (body := b_let_through) T.t_let_through.F sc_let_through (.inl rfl) fun cdv A outer s H E hr hg => ?_
  exact (xs_cons (xs_set 3 sc_let_through.nd (x_ixA (roomU1 hr) (xb 0) (XE.b x_int))) (xs_cons (xs_if (xt_cmp (or_eqA (roomU0 hr)) od_eqA (xb 3) (XE.b x_str) rfl) (xs_one (xs_ret (x_tup (xa_cons x_int (xa_cons (xv 2) xa_nil))))) xs_nil) (xs_cons (xs_if (xt_cmp (or_eqA (roomU0 hr)) od_eqA (xb 3) (XE.b x_str) rfl) (xs_one (xs_ret (x_tup (xa_cons (xv 2) (xa_cons x_int xa_nil))))) xs_nil) (xs_cons (xs_asg (x_ixA (roomU1 hr) (xb 1) (XE.b (x_ixA (roomU1 hr) (xb 0) (XE.b x_int)))) (xg_tup 2 rfl (xgs_cons (xg_name 4 sc_let_through.nd) (xgs_cons (xg_name 5 sc_let_through.nd) xgs_nil)))) (xs_cons (xs_if (xt_cmp (or_eqA (roomU0 hr)) od_eqA (xb 3) (XE.b x_str) rfl) (xs_one (xs_ret (x_tup (xa_cons (xv 5) (xa_cons (xv 4) xa_nil))))) xs_nil) (xs_cons (xs_asg (x_ixA (roomU1 hr) (xb 1) (XE.b (x_ixA (roomU1 hr) (xb 0) (XE.b x_int)))) (xg_tup 2 rfl (xgs_cons (xg_name 6 sc_let_through.nd) (xgs_cons (xg_name 7 sc_let_through.nd) xgs_nil)))) (xs_cons (xs_if (xt_cmp (or_eqA (roomU0 hr)) od_eqA (xb 3) (XE.b x_str) rfl) (xs_one (xs_ret (x_tup (xa_cons (x_op op_and od_band (xb 4) (xb 6)) (xa_cons (x_op op_or od_bor (xb 5) (xb 7)) xa_nil))))) xs_nil) (xs_one (xs_ret (x_tup (xa_cons (x_op op_or od_bor (xb 4) (xb 6)) (xa_cons (x_op op_and od_band (xb 5) (xb 7)) xa_nil))))))))))))
abbrev n_sign_at : List Str := ["pair", "k", "ones", "zeros"]
theorem sc_sign_at : FnScope n_sign_at ["pair", "k"] (defScope s_sign_at) := ⟨rfl, rfl, rfl, by decide +kernel, rfl, by decide +kernel, by decide +kernel⟩
def b_sign_at : Vl.Env → M Fl := (sSeq (sAsg (dVar 0) (tgTup 2 (tgCons (tgName 2) (tgCons (tgName 3) tgNil)))) (sSeq (sIf (tTru (d2 dBand (d2 dShr (bVar 2) (bVar 1)) (dC (.int 1)))) (sRet (dC (.str "1"))) sNil) (sRet (vIf (tTru (d2 dBand (d2 dShr (bVar 3) (bVar 1)) (dC (.int 1)))) (dC (.str "0")) (dC (.str "?"))))))
def den_sign_at : List SV → M D := denOf 4 (b_sign_at)
theorem ok_sign_at (T : Tp K mg w) : FnG P w K mg base false 1 T.t_sign_at.f T.t_sign_at.fd ["pair", "k"] (spG K (ecOf T) .v 2 (den_sign_at)) := by
  refine fnG_of (k := 0) (N := n_sign_at) (ps := ["pair", "k"]) (body := b_sign_at) T.t_sign_at.F sc_sign_at (.inl rfl) fun cdv A outer s H E hr hg => ?_
  exact (xs_cons (xs_asg (xv 0) (xg_tup 2 rfl (xgs_cons (xg_name 2 sc_sign_at.nd) (xgs_cons (xg_name 3 sc_sign_at.nd) xgs_nil)))) (xs_cons (xs_if (xt_tru (XE.b (x_op op_and od_band (XE.b (x_op op_shr od_shr (xb 2) (xb 1))) (XE.b x_int)))) (xs_one (xs_ret x_str)) xs_nil) (xs_one (xs_ret (x_if (xt_tru (XE.b (x_op op_and od_band (XE.b (x_op op_shr od_shr (xb 3) (xb 1))) (XE.b x_int)))) x_str x_str)))))
abbrev n_has_rows : List Str := ["thing", "most"]
theorem sc_has_rows : FnScope n_has_rows ["thing", "most"] (defScope s_has_rows) := ⟨rfl, rfl, rfl, by decide +kernel, rfl, by decide +kernel, by decide +kernel⟩
def b_has_rows : Vl.Env → M Fl := (sSeq (sIf (mOr (mNot (tTru (dIsi "tuple" (bVar 0)))) (tV (d2 dNeA (dB gLen (aCons (bVar 0) aNil)) (dC (.int 2))))) (sRet (dC (.bool false))) sNil) (sRet (vAnd (dCall 3 den_is_count (aCons (d2 dIxA (bVar 0) (dC (.int 0))) (aCons (dC (.int 1)) (aCons (dVar 1) aNil)))) (dIsi "tuple" (d2 dIxA (bVar 0) (dC (.int 1)))))))
def den_has_rows : List SV → M D := denOf 2 (b_has_rows)
theorem ok_has_rows (T : Tp K mg w) : FnG P w K mg base false 2 T.t_has_rows.f T.t_has_rows.fd ["thing", "most"] (spG K (ecOf T) .v 2 (den_has_rows)) := by
  refine fnG_of (k := 1) (N := n_has_rows) (ps := ["thing", "most"]) (body := b_has_rows) T.t_has_rows.F sc_has_rows (.inl rfl) fun cdv A outer s H E hr hg => ?_
  exact (xs_cons (xs_if (XW.t (xw_or (xt_not (xt_tru (XE.b (x_isi (T := "tuple") (xb 0) (by decide) T.m_isinstance rfl T.m_tuple rfl)))) (xw_or1 (xt_cmp (or_neA (roomU0 hr)) od_neA (XE.b (x_blt call_len cd_len T.m_len rfl (xB_cons (xb 0) xB_nil))) (XE.b x_int) rfl)))) (xs_one (xs_ret x_bl)) xs_nil) (xs_one (xs_ret (x_and (x_call (ok_is_count T) (hr.mono (by omega)) (fun h => nomatch h) T.t_is_count.G T.t_is_count.Kp T.t_is_count.B (passX (takes_of rfl rfl rfl rfl)) (xa_cons (x_ixA (roomU1 hr) (xb 0) (XE.b x_int)) (xa_cons x_int (xa_cons (xv 1) xa_nil)))) (x_one (x_isi (T := "tuple") (XE.b (x_ixA (roomU1 hr) (xb 0) (XE.b x_int))) (by decide) T.m_isinstance rfl T.m_tuple rfl))))))
abbrev n_are_alike : List Str := ["rows", "row"]
theorem sc_are_alike : FnScope n_are_alike ["rows"] (defScope s_are_alike) := ⟨rfl, rfl, rfl, by decide +kernel, rfl, by decide +kernel, by decide +kernel⟩
def b_are_alike : Vl.Env → M Fl := (sRet (vAnd (dCall 1 den_is_word (aCons (d2 dIxA (bVar 0) (dC (.int 0))) aNil)) (dB gAll (aCons (dComp (itD (dVar 0)) (tgName 1) tsNil (dCall 2 den_is_word_of (aCons (dVar 1) (aCons (dB gLen (aCons (d2 dIxA (bVar 0) (dC (.int 0))) aNil)) aNil))) [1]) aNil))))
def den_are_alike : List SV → M D := denOf 2 (b_are_alike)
theorem ok_are_alike (T : Tp K mg w) : FnG P w K mg base false 3 T.t_are_alike.f T.t_are_alike.fd ["rows"] (spG K (ecOf T) .v 1 (den_are_alike)) := by
  refine fnG_of (k := 2) (N := n_are_alike) (ps := ["rows"]) (body := b_are_alike) T.t_are_alike.F sc_are_alike (.inl rfl) fun cdv A outer s H E hr hg => ?_
  exact (xs_one (xs_ret (x_and (x_call (ok_is_word T) (hr.mono (by omega)) (fun h => nomatch h) T.t_is_word.G T.t_is_word.Kp T.t_is_word.B (passX (takes_of rfl rfl rfl rfl)) (xa_cons (x_ixA (roomU1 hr) (xb 0) (XE.b x_int)) xa_nil)) (x_one (x_blt (cr_all rfl) cd_all T.m_all rfl (xB_cons (XE.fb (x_lc rfl sc_are_alike.nd (xi_any (xv 0)) (own := [("row", 1)]) (blkOk_by rfl) (fun _ _ _ _ _ => (xg_name 1 sc_are_alike.nd)) (fun _ _ _ _ _ => xts_nil) (fun _ _ _ _ _ => (x_call (ok_is_word_of T) (hr.mono (by omega)) (fun h => nomatch h) T.t_is_word_of.G T.t_is_word_of.Kp T.t_is_word_of.B passX0 (xa_cons (xv 1) (xa_cons (x_blt call_len cd_len T.m_len rfl (xB_cons (XE.b (x_ixA (roomU1 hr) (xb 0) (XE.b x_int))) xB_nil)) xa_nil)))))) xB_nil))))))
abbrev n_check_inputs : List Str := ["net", "most"]
theorem sc_check_inputs : FnScope n_check_inputs ["net", "most"] (defScope s_check_inputs) := ⟨rfl, rfl, rfl, by decide +kernel, rfl, by decide +kernel, by decide +kernel⟩
def b_check_inputs : Vl.Env → M Fl := (sIf (tV (d2 dGt (d2 dIxA (bVar 0) (dC (.int 0))) (bVar 1))) (sRaiseE "TooGreat" (d2 dAdd (d2 dAdd (dC (.str "the net has more than ")) (dB gStr (aCons (bVar 1) aNil))) (dC (.str " inputs")))) sNil)
def den_check_inputs : List SV → M D := denOf 2 (b_check_inputs)
theorem ok_check_inputs (T : Tp K mg w) : FnG P w K mg base false 1 T.t_check_inputs.f T.t_check_inputs.fd ["net", "most"] (spG K (ecOf T) .v 2 (den_check_inputs)) := by
  refine fnG_of (k := 0) (N := n_check_inputs) (ps := ["net", "most"]) (body := b_check_inputs) T.t_check_inputs.F sc_check_inputs (.inl rfl) fun cdv A outer s H E hr hg => ?_
  exact (xs_one (xs_if (xt_cmp or_gt od_gt (XE.b (x_ixA (roomU1 hr) (xb 0) (XE.b x_int))) (xb 1) rfl) (xs_one (xs_raiseE "TooGreat" rfl (takes_of rfl rfl rfl rfl) T.e_TooGreat.F T.e_TooGreat.q T.e_TooGreat.G T.e_TooGreat.Kp (raises_own T.e_TooGreat.h1 T.e_TooGreat.h2) rfl (x_op or_add od_add (XE.b (x_op or_add od_add (XE.b x_str) (XE.b (x_bty cr_str cd_str T.m_str rfl (xB_cons (xb 1) xB_nil))))) (XE.b x_str)))) xs_nil))
abbrev n__law_open : List Str := ["script", "cells", "k", "cell"]
theorem sc__law_open : FnScope n__law_open ["script"] (defScope s__law_open) := ⟨rfl, rfl, rfl, by decide +kernel, rfl, by decide +kernel, by decide +kernel⟩
def b__law_open : Vl.Env → M Fl := (sSeq (sOwn 1 (dB gList (aCons (dScr 0 dNoPart (dPart (dC (.int 12)))) aNil))) (sSeq (sFor (itE1 (dScr 0 (dPart (dC (.int 12))) (dPart (dC (.int 63))))) (tgTup 2 (tgCons (tgName 2) (tgCons (tgName 3) tgNil))) (sSetAt 1 (d2 dAdd (d2 dIxA (bVar 1) (d2 dMod (dB gInt (aCons (bVar 2) aNil)) (dC (.int 12)))) (bVar 3)) (d2 dMod (dB gInt (aCons (bVar 2) aNil)) (dC (.int 12))))) (sShare 1 (sRet (dLst (aCons (dVar 1) (aCons (dC (.int 0)) (aCons (dC (.int 0)) aNil))))))))
def den__law_open : List SV → M D := denOf 4 (b__law_open)
theorem ok__law_open (T : Tp K mg w) : FnG P w K mg base false 1 T.t__law_open.f T.t__law_open.fd ["script"] (spG K (ecOf T) .v 1 (den__law_open)) := by
  refine fnG_of (k := 0) (N := n__law_open) (ps := ["script"]) (body := b__law_open) T.t__law_open.F sc__law_open (.inl rfl) fun cdv A outer s H E hr hg => ?_
  exact (xs_cons (xs_own 1 sc__law_open.nd (x_bty (cr_list rfl) cd_list T.m_list rfl (xB_cons (XE.fb (x_scr 0 xo_none (xo_some (XE.b x_int)))) xB_nil))) (xs_cons (xs_for (passes_of rfl) rfl (xi_enum1 T.m_enumerate (XE.v (x_scr 0 (xo_some (XE.b x_int)) (xo_some (XE.b x_int))))) (xg_tup 2 rfl (xgs_cons (xg_name 2 sc__law_open.nd) (xgs_cons (xg_name 3 sc__law_open.nd) xgs_nil))) (xs_one (xs_setAt 1 (x_op or_add od_add (XE.b (x_ixA (roomU1 hr) (xb 1) (XE.b (x_op op_mod od_mod (XE.b (x_bty call_int1 cd_int T.m_int rfl (xB_cons (xb 2) xB_nil))) (XE.b x_int))))) (xb 3)) (x_op op_mod od_mod (XE.b (x_bty call_int1 cd_int T.m_int rfl (xB_cons (xb 2) xB_nil))) (XE.b x_int))))) (xs_share 1 (xs_one (xs_ret (XE.v (x_lst (xa_cons (xv 1) (xa_cons x_int (xa_cons x_int xa_nil))))))))))
abbrev n__law_spread : List Str := ["cell", "k", "primes", "one", "two", "three"]
theorem sc__law_spread : FnScope n__law_spread ["cell", "k"] (defScope s__law_spread) := ⟨rfl, rfl, rfl, by decide +kernel, rfl, by decide +kernel, by decide +kernel⟩
def b__law_spread : Vl.Env → M Fl := (sSeq (sIf (tV (d2 dGe (bVar 0) (d2 dPow (dC (.int 10)) (dC (.int 18))))) (sRet (dVar 0)) sNil) (sSeq (sSet 2 (dLst (aCons (dC (.int 2147483629)) (aCons (dC (.int 2147483587)) (aCons (dC (.int 2147483579)) (aCons (dC (.int 2147483563)) (aCons (dC (.int 2147483549)) (aCons (dC (.int 2147483543)) (aCons (dC (.int 2147483497)) (aCons (dC (.int 2147483489)) aNil)))))))))) (sSeq (sSet 2 (d2 dCat (bVar 2) (dLst (aCons (dC (.int 2147483477)) (aCons (dC (.int 2147483423)) (aCons (dC (.int 2147483399)) (aCons (dC (.int 2147483353)) (aCons (dC (.int 2147483323)) aNil)))))))) (sSeq (sSet 3 (d2 dMul (d2 dMod (dB gInt (aCons (bVar 0) aNil)) (dC (.int 1000000007))) (d2 dAdd (d2 dMul (dC (.int 2)) (bVar 1)) (dC (.int 69069))))) (sSeq (sSet 3 (d2 dMod (dB gInt (aCons (d2 dPow (d2 dAdd (d2 dAdd (bVar 3) (d2 dMul (bVar 1) (dC (.int 40503)))) (dC (.int 977))) (dC (.int 3))) aNil)) (d2 dIxA (bVar 2) (d2 dMod (dB gInt (aCons (bVar 1) aNil)) (dC (.int 13)))))) (sSeq (sSet 4 (d2 dMod (dB gInt (aCons (d2 dPow (d2 dAdd (d2 dAdd (d2 dMul (bVar 3) (d2 dAdd (bVar 1) (dC (.int 3)))) (d2 dMod (dB gInt (aCons (bVar 0) aNil)) (dC (.int 65537)))) (dC (.int 5))) (dC (.int 5))) aNil)) (d2 dIxA (bVar 2) (d2 dMod (dB gInt (aCons (d2 dAdd (bVar 1) (dC (.int 5))) aNil)) (dC (.int 13)))))) (sSeq (sSet 5 (d2 dMod (dB gInt (aCons (d2 dPow (d2 dAdd (d2 dAdd (bVar 4) (d2 dMod (dB gInt (aCons (bVar 3) aNil)) (dC (.int 1009)))) (bVar 1)) (dC (.int 3))) aNil)) (d2 dIxA (bVar 2) (d2 dMod (dB gInt (aCons (d2 dAdd (bVar 1) (dC (.int 7))) aNil)) (dC (.int 13)))))) (sRet (d2 dAdd (d2 dMul (d2 dAdd (d2 dMul (bVar 3) (dC (.int 2147483647))) (bVar 4)) (dC (.int 2147483647))) (bVar 5))))))))))
def den__law_spread : List SV → M D := denOf 6 (b__law_spread)
theorem ok__law_spread (T : Tp K mg w) : FnG P w K mg base false 1 T.t__law_spread.f T.t__law_spread.fd ["cell", "k"] (spG K (ecOf T) .v 2 (den__law_spread)) := by
  refine fnG_of (k := 0) (N := n__law_spread) (ps := ["cell", "k"]) (body := b__law_spread) T.t__law_spread.F sc__law_spread (.inl rfl) fun cdv A outer s H E hr hg => ?_
  exact (xs_cons (xs_if (xt_cmp or_ge od_ge (xb 0) (XE.b (x_op op_pow od_pow (XE.b x_int) (XE.b x_int))) rfl) (xs_one (xs_ret (xv 0))) xs_nil) (xs_cons (xs_set 2 sc__law_spread.nd (XE.v (x_lst (xa_cons x_int (xa_cons x_int (xa_cons x_int (xa_cons x_int (xa_cons x_int (xa_cons x_int (xa_cons x_int (xa_cons x_int xa_nil))))))))))) (xs_cons (xs_set 2 sc__law_spread.nd (XE.v (x_op op_cat od_cat (xb 2) (XE.fb (x_lst (xa_cons x_int (xa_cons x_int (xa_cons x_int (xa_cons x_int (xa_cons x_int xa_nil)))))))))) (xs_cons (xs_set 3 sc__law_spread.nd (x_op or_mul od_mul (XE.b (x_op op_mod od_mod (XE.b (x_bty call_int1 cd_int T.m_int rfl (xB_cons (xb 0) xB_nil))) (XE.b x_int))) (XE.b (x_op or_add od_add (XE.b (x_op or_mul od_mul (XE.b x_int) (xb 1))) (XE.b x_int))))) (xs_cons (xs_set 3 sc__law_spread.nd (x_op op_mod od_mod (XE.b (x_bty call_int1 cd_int T.m_int rfl (xB_cons (XE.b (x_op op_pow od_pow (XE.b (x_op or_add od_add (XE.b (x_op or_add od_add (xb 3) (XE.b (x_op or_mul od_mul (xb 1) (XE.b x_int))))) (XE.b x_int))) (XE.b x_int))) xB_nil))) (XE.b (x_ixA (roomU1 hr) (xb 2) (XE.b (x_op op_mod od_mod (XE.b (x_bty call_int1 cd_int T.m_int rfl (xB_cons (xb 1) xB_nil))) (XE.b x_int))))))) (xs_cons (xs_set 4 sc__law_spread.nd (x_op op_mod od_mod (XE.b (x_bty call_int1 cd_int T.m_int rfl (xB_cons (XE.b (x_op op_pow od_pow (XE.b (x_op or_add od_add (XE.b (x_op or_add od_add (XE.b (x_op or_mul od_mul (xb 3) (XE.b (x_op or_add od_add (xb 1) (XE.b x_int))))) (XE.b (x_op op_mod od_mod (XE.b (x_bty call_int1 cd_int T.m_int rfl (xB_cons (xb 0) xB_nil))) (XE.b x_int))))) (XE.b x_int))) (XE.b x_int))) xB_nil))) (XE.b (x_ixA (roomU1 hr) (xb 2) (XE.b (x_op op_mod od_mod (XE.b (x_bty call_int1 cd_int T.m_int rfl (xB_cons (XE.b (x_op or_add od_add (xb 1) (XE.b x_int))) xB_nil))) (XE.b x_int))))))) (xs_cons (xs_set 5 sc__law_spread.nd (x_op op_mod od_mod (XE.b (x_bty call_int1 cd_int T.m_int rfl (xB_cons (XE.b (x_op op_pow od_pow (XE.b (x_op or_add od_add (XE.b (x_op or_add od_add (xb 4) (XE.b (x_op op_mod od_mod (XE.b (x_bty call_int1 cd_int T.m_int rfl (xB_cons (xb 3) xB_nil))) (XE.b x_int))))) (xb 1))) (XE.b x_int))) xB_nil))) (XE.b (x_ixA (roomU1 hr) (xb 2) (XE.b (x_op op_mod od_mod (XE.b (x_bty call_int1 cd_int T.m_int rfl (xB_cons (XE.b (x_op or_add od_add (xb 1) (XE.b x_int))) xB_nil))) (XE.b x_int))))))) (xs_one (xs_ret (x_op or_add od_add (XE.b (x_op or_mul od_mul (XE.b (x_op or_add od_add (XE.b (x_op or_mul od_mul (xb 3) (XE.b x_int))) (xb 4))) (XE.b x_int))) (xb 5)))))))))))
abbrev n__law_take : List Str := ["pen", "many", "k", "cell", "found"]
theorem sc__law_take : FnScope n__law_take ["pen", "many"] (defScope s__law_take) := ⟨rfl, rfl, rfl, by decide +kernel, rfl, by decide +kernel, by decide +kernel⟩
def b__law_take : Vl.Env → M Fl := (sSeq (sIf (tV (d2 dLt (dPenS 0) (bVar 1))) (sSeq (sSet 2 (dPenK 0)) (sSeq (sSet 3 (dC (.int 0))) (sSeq (sIf (tV (d2 dLt (bVar 2) (dB gLen (aCons (dPenC 0) aNil)))) (sSet 3 (d2 dIxA (dPenC 0) (bVar 2))) (sIf (tV (d2 dGt (dB gLen (aCons (dPenC 0) aNil)) (dC (.int 0)))) (sSet 3 (d2 dMod (dB gInt (aCons (d2 dIxA (dPenC 0) (d2 dMod (dB gInt (aCons (d2 dAdd (d2 dMul (bVar 2) (dC (.int 5))) (dC (.int 3))) aNil)) (dB gLen (aCons (dPenC 0) aNil)))) aNil)) (d2 dAdd (d2 dPow (dC (.int 10)) (dC (.int 17))) (bVar 2)))) sNil)) (sSeq (sPenK 0 (d2 dAdd (bVar 2) (dC (.int 1)))) (sPenS 0 (dCall 2 den__law_spread (aCons (dVar 3) (aCons (dVar 2) aNil)))))))) sNil) (sSeq (sSet 4 (d2 dMod (dB gInt (aCons (dPenS 0) aNil)) (bVar 1))) (sSeq (sPenS 0 (d2 dDiv (dPenS 0) (bVar 1))) (sRet (dVar 4)))))
def den__law_take : List SV → M D := denOf 5 (b__law_take)
theorem ok__law_take (T : Tp K mg w) : FnG P w K mg base false 2 T.t__law_take.f T.t__law_take.fd ["pen", "many"] (spG K (ecOf T) .v 2 (den__law_take)) := by
  refine fnG_of (k := 1) (N := n__law_take) (ps := ["pen", "many"]) (body := b__law_take) T.t__law_take.F sc__law_take (.inl rfl) fun cdv A outer s H E hr hg => ?_
  exact (xs_cons (xs_if (xt_cmp or_lt od_lt (XE.b (x_penS 0)) (xb 1) rfl) (xs_cons (xs_set 2 sc__law_take.nd (x_penK 0)) (xs_cons (xs_set 3 sc__law_take.nd x_int) (xs_cons (xs_if (xt_cmp or_lt od_lt (xb 2) (XE.b (x_blt call_len cd_len T.m_len rfl (xB_cons (x_penC 0) xB_nil))) rfl) (xs_one (xs_set 3 sc__law_take.nd (x_ixA (roomU1 hr) (x_penC 0) (xb 2)))) (xs_one (xs_if (xt_cmp or_gt od_gt (XE.b (x_blt call_len cd_len T.m_len rfl (xB_cons (x_penC 0) xB_nil))) (XE.b x_int) rfl) (xs_one (xs_set 3 sc__law_take.nd (x_op op_mod od_mod (XE.b (x_bty call_int1 cd_int T.m_int rfl (xB_cons (XE.b (x_ixA (roomU1 hr) (x_penC 0) (XE.b (x_op op_mod od_mod (XE.b (x_bty call_int1 cd_int T.m_int rfl (xB_cons (XE.b (x_op or_add od_add (XE.b (x_op or_mul od_mul (xb 2) (XE.b x_int))) (XE.b x_int))) xB_nil))) (XE.b (x_blt call_len cd_len T.m_len rfl (xB_cons (x_penC 0) xB_nil))))))) xB_nil))) (XE.b (x_op or_add od_add (XE.b (x_op op_pow od_pow (XE.b x_int) (XE.b x_int))) (xb 2)))))) xs_nil))) (xs_cons (xs_penK 0 (x_op or_add od_add (xb 2) (XE.b x_int))) (xs_one (xs_penS 0 (x_call (ok__law_spread T) (hr.mono (by omega)) (fun h => nomatch h) T.t__law_spread.G T.t__law_spread.Kp T.t__law_spread.B (passX (takes_of rfl rfl rfl rfl)) (xa_cons (xv 3) (xa_cons (xv 2) xa_nil))))))))) xs_nil) (xs_cons (xs_set 4 sc__law_take.nd (x_op op_mod od_mod (XE.b (x_bty call_int1 cd_int T.m_int rfl (xB_cons (XE.b (x_penS 0)) xB_nil))) (xb 1))) (xs_cons (xs_penS 0 (x_op op_fdiv od_div (XE.b (x_penS 0)) (xb 1))) (xs_one (xs_ret (xv 4))))))
abbrev n__law_one_of : List Str := ["pen", "some"]
theorem sc__law_one_of : FnScope n__law_one_of ["pen", "some"] (defScope s__law_one_of) := ⟨rfl, rfl, rfl, by decide +kernel, rfl, by decide +kernel, by decide +kernel⟩
def b__law_one_of : Vl.Env → M Fl := (sRet (d2 dIxA (bVar 1) (dPen 0 2 den__law_take (aCons (dB gLen (aCons (bVar 1) aNil)) aNil))))
def den__law_one_of : List SV → M D := denOf 2 (b__law_one_of)
theorem ok__law_one_of (T : Tp K mg w) : FnG P w K mg base false 3 T.t__law_one_of.f T.t__law_one_of.fd ["pen", "some"] (spG K (ecOf T) .v 2 (den__law_one_of)) := by
  refine fnG_of (k := 2) (N := n__law_one_of) (ps := ["pen", "some"]) (body := b__law_one_of) T.t__law_one_of.F sc__law_one_of (.inl rfl) fun cdv A outer s H E hr hg => ?_
  exact (xs_one (xs_ret (x_ixA (roomU1 hr) (xb 1) (XE.b (x_pen 0 (ok__law_take T) (hr.mono (by omega)) (fun h => nomatch h) T.t__law_take.G T.t__law_take.Kp T.t__law_take.B (passX (takes_of rfl rfl rfl rfl)) (xa_cons (x_blt call_len cd_len T.m_len rfl (xB_cons (xb 1) xB_nil)) xa_nil))))))
abbrev n__law_all : List Str := ["n", "bits", "found", "turn", "longer", "word", "bit"]
theorem sc__law_all : FnScope n__law_all ["n", "bits"] (defScope s__law_all) := ⟨rfl, rfl, rfl, by decide +kernel, rfl, by decide +kernel, by decide +kernel⟩
def b__law_all : Vl.Env → M Fl := (sSeq (sSet 2 (dLst (aCons (dC (.str "")) aNil))) (sSeq (sFor (itR1 (aCons (bVar 0) aNil)) (tgName 3) (sSeq (sSet 4 (dLst aNil)) (sSeq (sFor (itD (dVar 2)) (tgName 5) (sSet 4 (d2 dCat (bVar 4) (dComp (itD (dVar 1)) (tgName 6) tsNil (d2 dAdd (bVar 5) (bVar 6)) [6])))) (sSet 2 (dVar 4))))) (sRet (dVar 2))))
def den__law_all : List SV → M D := denOf 7 (b__law_all)
theorem ok__law_all (T : Tp K mg w) : FnG P w K mg base false 1 T.t__law_all.f T.t__law_all.fd ["n", "bits"] (spG K (ecOf T) .v 2 (den__law_all)) := by
  refine fnG_of (k := 0) (N := n__law_all) (ps := ["n", "bits"]) (body := b__law_all) T.t__law_all.F sc__law_all (.inl rfl) fun cdv A outer s H E hr hg => ?_
  exact (xs_cons (xs_set 2 sc__law_all.nd (XE.v (x_lst (xa_cons x_str xa_nil)))) (xs_cons (xs_for (passes_of rfl) rfl (xi_range1 T.m_range (xB_cons (xb 0) xB_nil)) (xg_name 3 sc__law_all.nd) (xs_cons (xs_set 4 sc__law_all.nd (XE.v (x_lst xa_nil))) (xs_cons (xs_for (passes_of rfl) rfl (xi_any (xv 2)) (xg_name 5 sc__law_all.nd) (xs_one (xs_set 4 sc__law_all.nd (XE.v (x_op op_cat od_cat (xb 4) (XE.fb (x_lc rfl sc__law_all.nd (xi_any (xv 1)) (own := [("bit", 6)]) (blkOk_by rfl) (fun _ _ _ _ _ => (xg_name 6 sc__law_all.nd)) (fun _ _ _ _ _ => xts_nil) (fun _ _ _ _ _ => (x_op or_add od_add (xb 5) (xb 6)))))))))) (xs_one (xs_set 2 sc__law_all.nd (xv 4)))))) (xs_one (xs_ret (xv 2)))))
abbrev n__law_settled : List Str := ["word", "found", "bit", "longer", "start", "one"]
theorem sc__law_settled : FnScope n__law_settled ["word"] (defScope s__law_settled) := ⟨rfl, rfl, rfl, by decide +kernel, rfl, by decide +kernel, by decide +kernel⟩
def b__law_settled : Vl.Env → M Fl := (sSeq (sSet 1 (dLst (aCons (dC (.str "")) aNil))) (sSeq (sFor (itD (dVar 0)) (tgName 2) (sSeq (sSet 3 (dLst aNil)) (sSeq (sFor (itD (dVar 1)) (tgName 4) (sSet 3 (d2 dCat (bVar 3) (dComp (itD (dC (.str "01"))) (tgName 5) (tV (d2 dInA (bVar 2) (dLst (aCons (dVar 5) (aCons (dC (.str "?")) aNil))))) (d2 dAdd (bVar 4) (bVar 5)) [5])))) (sSet 1 (dVar 3))))) (sRet (dVar 1))))
def den__law_settled : List SV → M D := denOf 6 (b__law_settled)
theorem ok__law_settled (T : Tp K mg w) : FnG P w K mg base false 1 T.t__law_settled.f T.t__law_settled.fd ["word"] (spG K (ecOf T) .v 1 (den__law_settled)) := by
  refine fnG_of (k := 0) (N := n__law_settled) (ps := ["word"]) (body := b__law_settled) T.t__law_settled.F sc__law_settled (.inl rfl) fun cdv A outer s H E hr hg => ?_
  exact (xs_cons (xs_set 1 sc__law_settled.nd (XE.v (x_lst (xa_cons x_str xa_nil)))) (xs_cons (xs_for (passes_of rfl) rfl (xi_any (xv 0)) (xg_name 2 sc__law_settled.nd) (xs_cons (xs_set 3 sc__law_settled.nd (XE.v (x_lst xa_nil))) (xs_cons (xs_for (passes_of rfl) rfl (xi_any (xv 1)) (xg_name 4 sc__law_settled.nd) (xs_one (xs_set 3 sc__law_settled.nd (XE.v (x_op op_cat od_cat (xb 3) (XE.fb (x_lc rfl sc__law_settled.nd (xi_any x_str) (own := [("one", 5)]) (blkOk_by rfl) (fun _ _ _ _ _ => (xg_name 5 sc__law_settled.nd)) (fun _ _ _ _ _ => (xts_one (xt_cmp (or_inA (roomU hr)) od_inA (xb 2) (XE.fb (x_lst (xa_cons (xv 5) (xa_cons x_str xa_nil)))) rfl))) (fun _ _ _ _ _ => (x_op or_add od_add (xb 4) (xb 5)))))))))) (xs_one (xs_set 1 sc__law_settled.nd (xv 3)))))) (xs_one (xs_ret (xv 1)))))
abbrev n__law_joined : List Str := ["words", "found", "k", "bits", "word"]
theorem sc__law_joined : FnScope n__law_joined ["words"] (defScope s__law_joined) := ⟨rfl, rfl, rfl, by decide +kernel, rfl, by decide +kernel, by decide +kernel⟩
def b__law_joined : Vl.Env → M Fl := (sSeq (sSet 1 (dC (.str ""))) (sSeq (sFor (itR1 (aCons (dB gLen (aCons (d2 dIxA (bVar 0) (dC (.int 0))) aNil)) aNil)) (tgName 2) (sSeq (sOwn 3 (dComp (itD (dVar 0)) (tgName 4) tsNil (d2 dIxA (bVar 4) (bVar 2)) [4])) (sSet 1 (d2 dAdd (bVar 1) (vIf (tV (d2 dEqA (dMA msCount (bVar 3) (aCons (d2 dIxA (bVar 3) (dC (.int 0))) aNil)) (dB gLen (aCons (bVar 3) aNil)))) (d2 dIxA (bVar 3) (dC (.int 0))) (dC (.str "?"))))))) (sRet (dVar 1))))
def den__law_joined : List SV → M D := denOf 5 (b__law_joined)
theorem ok__law_joined (T : Tp K mg w) : FnG P w K mg base false 1 T.t__law_joined.f T.t__law_joined.fd ["words"] (spG K (ecOf T) .v 1 (den__law_joined)) := by
  refine fnG_of (k := 0) (N := n__law_joined) (ps := ["words"]) (body := b__law_joined) T.t__law_joined.F sc__law_joined (.inl rfl) fun cdv A outer s H E hr hg => ?_
  exact (xs_cons (xs_set 1 sc__law_joined.nd x_str) (xs_cons (xs_for (passes_of rfl) rfl (xi_range1 T.m_range (xB_cons (XE.b (x_blt call_len cd_len T.m_len rfl (xB_cons (XE.b (x_ixA (roomU1 hr) (xb 0) (XE.b x_int))) xB_nil))) xB_nil)) (xg_name 2 sc__law_joined.nd) (xs_cons (xs_setLc 3 rfl sc__law_joined.nd (xi_any (xv 0)) (own := [("word", 4)]) (blkOk_by rfl) (fun _ _ _ _ _ => (xg_name 4 sc__law_joined.nd)) (fun _ _ _ _ _ => xts_nil) (fun _ _ _ _ _ => (x_ixA (roomU1 hr) (xb 4) (xb 2))) (sw_true rfl rfl rfl rfl)) (xs_one (xs_set 1 sc__law_joined.nd (x_op or_add od_add (xb 1) (x_if (xt_cmp (or_eqA (roomU0 hr)) od_eqA (XE.b (x_ma (ms_count (roomU hr)) (xb 3) (xB_cons (XE.b (x_ixA (roomU1 hr) (xb 3) (XE.b x_int))) xB_nil))) (XE.b (x_blt call_len cd_len T.m_len rfl (xB_cons (xb 3) xB_nil))) rfl) (XE.b (x_ixA (roomU1 hr) (xb 3) (XE.b x_int))) (XE.b x_str))))))) (xs_one (xs_ret (xv 1)))))
abbrev n__law_is_within : List Str := ["word", "other", "one", "two"]
theorem sc__law_is_within : FnScope n__law_is_within ["word", "other"] (defScope s__law_is_within) := ⟨rfl, rfl, rfl, by decide +kernel, rfl, by decide +kernel, by decide +kernel⟩
def b__law_is_within : Vl.Env → M Fl := (sRet (d2 dEqA (dComp (itZ2 (aCons (dVar 0) (aCons (dVar 1) aNil))) (tgTup 2 (tgCons (tgName 2) (tgCons (tgName 3) tgNil))) (mAnd (tV (d2 dNeA (bVar 3) (dC (.str "?")))) (tV (d2 dNeA (bVar 3) (bVar 2)))) (dC (.int 1)) [2, 3]) (dLst aNil)))
def den__law_is_within : List SV → M D := denOf 4 (b__law_is_within)
theorem ok__law_is_within (T : Tp K mg w) : FnG P w K mg base false 1 T.t__law_is_within.f T.t__law_is_within.fd ["word", "other"] (spG K (ecOf T) .v 2 (den__law_is_within)) := by
  refine fnG_of (k := 0) (N := n__law_is_within) (ps := ["word", "other"]) (body := b__law_is_within) T.t__law_is_within.F sc__law_is_within (.inl rfl) fun cdv A outer s H E hr hg => ?_
  exact (xs_one (xs_ret (x_cmp (or_eqA (roomU0 hr)) od_eqA (XE.fb (x_lc rfl sc__law_is_within.nd (xi_zip2 T.m_zip (xa_cons (xv 0) (xa_cons (xv 1) xa_nil))) (own := [("one", 2), ("two", 3)]) (blkOk_by rfl) (fun _ _ _ _ _ => (xg_tup 2 rfl (xgs_cons (xg_name 2 sc__law_is_within.nd) (xgs_cons (xg_name 3 sc__law_is_within.nd) xgs_nil)))) (fun _ _ _ _ _ => (xts_one (XW.t (xw_and (xt_cmp (or_neA (roomU0 hr)) od_neA (xb 3) (XE.b x_str) rfl) (xw_and1 (xt_cmp (or_neA (roomU0 hr)) od_neA (xb 3) (xb 2) rfl)))))) (fun _ _ _ _ _ => x_int))) (XE.fb (x_lst xa_nil)) rfl)))
abbrev n__law_any_word : List Str := ["pen", "n", "bits", "k"]
theorem sc__law_any_word : FnScope n__law_any_word ["pen", "n"] (defScope s__law_any_word) := ⟨rfl, rfl, rfl, by decide +kernel, rfl, by decide +kernel, by decide +kernel⟩
def b__law_any_word : Vl.Env → M Fl := (sSeq (sSet 2 (dPen 0 2 den__law_one_of (aCons (dLst (aCons (dC (.str "01")) (aCons (dC (.str "01?")) (aCons (dC (.str "0?")) (aCons (dC (.str "1?")) (aCons (dC (.str "?01")) aNil)))))) aNil))) (sRet (dMA msJoin (dC (.str "")) (aCons (dComp (itR1 (aCons (bVar 1) aNil)) (tgName 3) tsNil (dPen 0 2 den__law_one_of (aCons (dVar 2) aNil)) [3]) aNil))))
def den__law_any_word : List SV → M D := denOf 4 (b__law_any_word)
theorem ok__law_any_word (T : Tp K mg w) : FnG P w K mg base false 4 T.t__law_any_word.f T.t__law_any_word.fd ["pen", "n"] (spG K (ecOf T) .v 2 (den__law_any_word)) := by
  refine fnG_of (k := 3) (N := n__law_any_word) (ps := ["pen", "n"]) (body := b__law_any_word) T.t__law_any_word.F sc__law_any_word (.inl rfl) fun cdv A outer s H E hr hg => ?_
  exact (xs_cons (xs_set 2 sc__law_any_word.nd (x_pen 0 (ok__law_one_of T) (hr.mono (by omega)) (fun h => nomatch h) T.t__law_one_of.G T.t__law_one_of.Kp T.t__law_one_of.B (passX (takes_of rfl rfl rfl rfl)) (xa_cons (XE.v (x_lst (xa_cons x_str (xa_cons x_str (xa_cons x_str (xa_cons x_str (xa_cons x_str xa_nil))))))) xa_nil))) (xs_one (xs_ret (x_ma ms_join (XE.b x_str) (xB_cons (XE.fb (x_lc rfl sc__law_any_word.nd (xi_range1 T.m_range (xB_cons (xb 1) xB_nil)) (own := [("k", 3)]) (blkOk_by rfl) (fun _ _ _ _ _ => (xg_name 3 sc__law_any_word.nd)) (fun _ _ _ _ _ => xts_nil) (fun _ _ _ _ _ => (x_pen 0 (ok__law_one_of T) (hr.mono (by omega)) (fun h => nomatch h) T.t__law_one_of.G T.t__law_one_of.Kp T.t__law_one_of.B passX0 (xa_cons (xv 2) xa_nil))))) xB_nil)))))
abbrev n__law_told : List Str := ["word", "bits"]
theorem sc__law_told : FnScope n__law_told ["word", "bits"] (defScope s__law_told) := ⟨rfl, rfl, rfl, by decide +kernel, rfl, by decide +kernel, by decide +kernel⟩
def b__law_told : Vl.Env → M Fl := (sSeq (sIf (tV (d2 dEqA (bVar 0) (dC (.str "not")))) (sRet (vIf (tV (d2 dEqA (d2 dIxA (bVar 1) (dC (.int 0))) (dC (.str "1")))) (dC (.str "0")) (dC (.str "1")))) sNil) (sSeq (sIf (tV (d2 dEqA (bVar 0) (dC (.str "and")))) (sRet (vIf (tV (d2 dEqA (bVar 1) (dC (.str "11")))) (dC (.str "1")) (dC (.str "0")))) sNil) (sRet (vIf (tV (d2 dEqA (bVar 1) (dC (.str "00")))) (dC (.str "0")) (dC (.str "1"))))))
def den__law_told : List SV → M D := denOf 2 (b__law_told)
theorem ok__law_told (T : Tp K mg w) : FnG P w K mg base false 1 T.t__law_told.f T.t__law_told.fd ["word", "bits"] (spG K (ecOf T) .v 2 (den__law_told)) := by
  refine fnG_of (k := 0) (N := n__law_told) (ps := ["word", "bits"]) (body := b__law_told) T.t__law_told.F sc__law_told (.inl rfl) fun cdv A outer s H E hr hg => ?_
  exact (xs_cons (xs_if (xt_cmp (or_eqA (roomU0 hr)) od_eqA (xb 0) (XE.b x_str) rfl) (xs_one (xs_ret (x_if (xt_cmp (or_eqA (roomU0 hr)) od_eqA (XE.b (x_ixA (roomU1 hr) (xb 1) (XE.b x_int))) (XE.b x_str) rfl) x_str x_str))) xs_nil) (xs_cons (xs_if (xt_cmp (or_eqA (roomU0 hr)) od_eqA (xb 0) (XE.b x_str) rfl) (xs_one (xs_ret (x_if (xt_cmp (or_eqA (roomU0 hr)) od_eqA (xb 1) (XE.b x_str) rfl) x_str x_str))) xs_nil) (xs_one (xs_ret (x_if (xt_cmp (or_eqA (roomU0 hr)) od_eqA (xb 1) (XE.b x_str) rfl) x_str x_str)))))
abbrev n__law_run : List Str := ["net", "word", "found", "gate", "given", "number", "bits", "out"]
theorem sc__law_run : FnScope n__law_run ["net", "word"] (defScope s__law_run) := ⟨rfl, rfl, rfl, by decide +kernel, rfl, by decide +kernel, by decide +kernel⟩
def b__law_run : Vl.Env → M Fl := (sSeq (sOwn 2 (dB gList (aCons (bVar 1) aNil))) (sSeq (sFor (itD (d2 dIxA (bVar 0) (dC (.int 1)))) (tgName 3) (sIf (tV (d2 dEqA (dB gLen (aCons (bVar 3) aNil)) (dC (.int 1)))) (sApp 2 (d2 dIxA (bVar 3) (dC (.int 0)))) (sSeq (sSet 4 (dMA msJoin (dC (.str "")) (aCons (dComp (itD (dSlice (bVar 3) (dPart (dC (.int 1))) dNoPart)) (tgName 5) tsNil (d2 dIxA (bVar 2) (bVar 5)) [5]) aNil))) (sApp 2 (dCall 1 den__law_joined (aCons (dComp (itD (dCall 1 den__law_settled (aCons (dVar 4) aNil))) (tgName 6) tsNil (dCall 2 den__law_told (aCons (d2 dIxA (bVar 3) (dC (.int 0))) (aCons (dVar 6) aNil))) [6]) aNil)))))) (sRet (dMA msJoin (dC (.str "")) (aCons (dComp (itD (d2 dIxA (bVar 0) (dC (.int 2)))) (tgName 7) tsNil (d2 dIxA (bVar 2) (bVar 7)) [7]) aNil)))))
def den__law_run : List SV → M D := denOf 8 (b__law_run)
theorem ok__law_run (T : Tp K mg w) : FnG P w K mg base false 2 T.t__law_run.f T.t__law_run.fd ["net", "word"] (spG K (ecOf T) .v 2 (den__law_run)) := by
  refine fnG_of (k := 1) (N := n__law_run) (ps := ["net", "word"]) (body := b__law_run) T.t__law_run.F sc__law_run (.inl rfl) fun cdv A outer s H E hr hg => ?_
  exact (xs_cons (xs_own 2 sc__law_run.nd (x_bty (cr_list rfl) cd_list T.m_list rfl (xB_cons (xb 1) xB_nil))) (xs_cons (xs_for (passes_of rfl) rfl (xi_any (x_ixA (roomU1 hr) (xb 0) (XE.b x_int))) (xg_name 3 sc__law_run.nd) (xs_one (xs_if (xt_cmp (or_eqA (roomU0 hr)) od_eqA (XE.b (x_blt call_len cd_len T.m_len rfl (xB_cons (xb 3) xB_nil))) (XE.b x_int) rfl) (xs_one (xs_app 2 (x_ixA (roomU1 hr) (xb 3) (XE.b x_int)))) (xs_cons (xs_set 4 sc__law_run.nd (x_ma ms_join (XE.b x_str) (xB_cons (XE.fb (x_lc rfl sc__law_run.nd (xi_any (x_slice (xb 3) (xo_some (XE.b x_int)) xo_none)) (own := [("number", 5)]) (blkOk_by rfl) (fun _ _ _ _ _ => (xg_name 5 sc__law_run.nd)) (fun _ _ _ _ _ => xts_nil) (fun _ _ _ _ _ => (x_ixA (roomU1 hr) (xb 2) (xb 5))))) xB_nil))) (xs_one (xs_app 2 (x_call (ok__law_joined T) (hr.mono (by omega)) (fun h => nomatch h) T.t__law_joined.G T.t__law_joined.Kp T.t__law_joined.B (passX (takes_of rfl rfl rfl rfl)) (xa_cons (XE.v (x_lc rfl sc__law_run.nd (xi_any (x_call (ok__law_settled T) (hr.mono (by omega)) (fun h => nomatch h) T.t__law_settled.G T.t__law_settled.Kp T.t__law_settled.B (passX (takes_of rfl rfl rfl rfl)) (xa_cons (xv 4) xa_nil))) (own := [("bits", 6)]) (blkOk_by rfl) (fun _ _ _ _ _ => (xg_name 6 sc__law_run.nd)) (fun _ _ _ _ _ => xts_nil) (fun _ _ _ _ _ => (x_call (ok__law_told T) (hr.mono (by omega)) (fun h => nomatch h) T.t__law_told.G T.t__law_told.Kp T.t__law_told.B passX0 (xa_cons (x_ixA (roomU1 hr) (xb 3) (XE.b x_int)) (xa_cons (xv 6) xa_nil)))))) xa_nil)))))))) (xs_one (xs_ret (x_ma ms_join (XE.b x_str) (xB_cons (XE.fb (x_lc rfl sc__law_run.nd (xi_any (x_ixA (roomU1 hr) (xb 0) (XE.b x_int))) (own := [("out", 7)]) (blkOk_by rfl) (fun _ _ _ _ _ => (xg_name 7 sc__law_run.nd)) (fun _ _ _ _ _ => xts_nil) (fun _ _ _ _ _ => (x_ixA (roomU1 hr) (xb 2) (xb 7))))) xB_nil))))))
abbrev n__law_any_net : List Str := ["pen", "n", "most", "m", "gates", "turn", "below", "kind", "numbers", "k"]
theorem sc__law_any_net : FnScope n__law_any_net ["pen", "n", "most", "m"] (defScope s__law_any_net) := ⟨rfl, rfl, rfl, by decide +kernel, rfl, by decide +kernel, by decide +kernel⟩
def b__law_any_net : Vl.Env → M Fl := (sSeq (sOwn 4 (dLst aNil)) (sSeq (sFor (itR1 (aCons (dPen 0 2 den__law_take (aCons (d2 dAdd (bVar 2) (dC (.int 1))) aNil)) aNil)) (tgName 5) (sSeq (sAsg (dTup (aCons (d2 dAdd (bVar 1) (dB gLen (aCons (bVar 4) aNil))) (aCons (dPen 0 2 den__law_one_of (aCons (dLst (aCons (dC (.str "not")) (aCons (dC (.str "and")) (aCons (dC (.str "or")) (aCons (dC (.str "and")) (aCons (dC (.str "or")) (aCons (dC (.str "0")) (aCons (dC (.str "1")) aNil)))))))) aNil)) aNil))) (tgTup 2 (tgCons (tgName 6) (tgCons (tgName 7) tgNil)))) (sSeq (sOwn 8 (dComp (itR1 (aCons (dMA msGet (dDisp (pCons (dC (.str "not")) (dC (.int 1)) (pCons (dC (.str "and")) (dC (.int 2)) (pCons (dC (.str "or")) (dC (.int 2)) pNil)))) (aCons (bVar 7) (aCons (dC (.int 0)) aNil))) aNil)) (tgName 9) tsNil (dPen 0 2 den__law_take (aCons (dVar 6) aNil)) [9])) (sApp 4 (dB gTuple (aCons (d2 dCat (dLst (aCons (dVar 7) aNil)) (bVar 8)) aNil)))))) (sRet (dTup (aCons (dVar 1) (aCons (dB gTuple (aCons (bVar 4) aNil)) (aCons (dB gTuple (aCons (dComp (itR1 (aCons (bVar 3) aNil)) (tgName 9) tsNil (dPen 0 2 den__law_take (aCons (d2 dAdd (bVar 1) (dB gLen (aCons (bVar 4) aNil))) aNil)) [9]) aNil)) aNil)))))))
def den__law_any_net : List SV → M D := denOf 10 (b__law_any_net)
theorem ok__law_any_net (T : Tp K mg w) : FnG P w K mg base false 4 T.t__law_any_net.f T.t__law_any_net.fd ["pen", "n", "most", "m"] (spG K (ecOf T) .v 4 (den__law_any_net)) := by
  refine fnG_of (k := 3) (N := n__law_any_net) (ps := ["pen", "n", "most", "m"]) (body := b__law_any_net) T.t__law_any_net.F sc__law_any_net (.inl rfl) fun cdv A outer s H E hr hg => ?_
  exact (xs_cons (xs_own 4 sc__law_any_net.nd (x_lst xa_nil)) (xs_cons (xs_for (passes_of rfl) rfl (xi_range1 T.m_range (xB_cons (XE.b (x_pen 0 (ok__law_take T) (hr.mono (by omega)) (fun h => nomatch h) T.t__law_take.G T.t__law_take.Kp T.t__law_take.B (passX (takes_of rfl rfl rfl rfl)) (xa_cons (x_op or_add od_add (xb 2) (XE.b x_int)) xa_nil))) xB_nil)) (xg_name 5 sc__law_any_net.nd) (xs_cons (xs_asg (x_tup (xa_cons (x_op or_add od_add (xb 1) (XE.b (x_blt call_len cd_len T.m_len rfl (xB_cons (xb 4) xB_nil)))) (xa_cons (x_pen 0 (ok__law_one_of T) (hr.mono (by omega)) (fun h => nomatch h) T.t__law_one_of.G T.t__law_one_of.Kp T.t__law_one_of.B (passX (takes_of rfl rfl rfl rfl)) (xa_cons (XE.v (x_lst (xa_cons x_str (xa_cons x_str (xa_cons x_str (xa_cons x_str (xa_cons x_str (xa_cons x_str (xa_cons x_str xa_nil))))))))) xa_nil)) xa_nil))) (xg_tup 2 rfl (xgs_cons (xg_name 6 sc__law_any_net.nd) (xgs_cons (xg_name 7 sc__law_any_net.nd) xgs_nil)))) (xs_cons (xs_setLc 8 rfl sc__law_any_net.nd (xi_range1 T.m_range (xB_cons (XE.b (x_ma (ms_get (roomU hr)) (XE.b (x_disp (xp_cons x_str x_int (xp_cons x_str x_int (xp_cons x_str x_int xp_nil))))) (xB_cons (xb 7) (xB_cons (XE.b x_int) xB_nil)))) xB_nil)) (own := [("k", 9)]) (blkOk_by rfl) (fun _ _ _ _ _ => (xg_name 9 sc__law_any_net.nd)) (fun _ _ _ _ _ => xts_nil) (fun _ _ _ _ _ => (x_pen 0 (ok__law_take T) (hr.mono (by omega)) (fun h => nomatch h) T.t__law_take.G T.t__law_take.Kp T.t__law_take.B passX0 (xa_cons (xv 6) xa_nil))) (sw_true rfl rfl rfl rfl)) (xs_one (xs_app 4 (x_bty call_tupF cd_tuple T.m_tuple rfl (xB_cons (XE.fb (x_op op_cat od_cat (XE.fb (x_lst (xa_cons (xv 7) xa_nil))) (xb 8))) xB_nil))))))) (xs_one (xs_ret (x_tup (xa_cons (xv 1) (xa_cons (x_bty call_tupF cd_tuple T.m_tuple rfl (xB_cons (xb 4) xB_nil)) (xa_cons (x_bty call_tupF cd_tuple T.m_tuple rfl (xB_cons (XE.fb (x_lc rfl sc__law_any_net.nd (xi_range1 T.m_range (xB_cons (xb 3) xB_nil)) (own := [("k", 9)]) (blkOk_by rfl) (fun _ _ _ _ _ => (xg_name 9 sc__law_any_net.nd)) (fun _ _ _ _ _ => xts_nil) (fun _ _ _ _ _ => (x_pen 0 (ok__law_take T) (hr.mono (by omega)) (fun h => nomatch h) T.t__law_take.G T.t__law_take.Kp T.t__law_take.B passX0 (xa_cons (x_op or_add od_add (xb 1) (XE.b (x_blt call_len cd_len T.m_len rfl (xB_cons (xb 4) xB_nil)))) xa_nil))))) xB_nil)) xa_nil))))))))
abbrev n__law_bent : List Str := ["pen", "value", "some", "k", "way"]
theorem sc__law_bent : FnScope n__law_bent ["pen", "value"] (defScope s__law_bent) := ⟨rfl, rfl, rfl, by decide +kernel, rfl, by decide +kernel, by decide +kernel⟩
def b__law_bent (self : List SV → M D) : Vl.Env → M Fl := (sSeq (sSet 2 (dLst (aCons (dC .none) (aCons (dC (.bool true)) (aCons (dC (.bool false)) (aCons (dC (.int 0)) (aCons (dC (.int 1)) (aCons (dC (.int (-1))) (aCons (dC (.int 2)) (aCons (dC (.int 7)) (aCons (dC (.str "a")) (aCons (dC (.str "")) (aCons (dC (.str "?")) (aCons (dC (.str "01")) (aCons (dTup aNil) (aCons (dLst aNil) (aCons (dC (.dict [])) (aCons (dTup (aCons (dC (.int 0)) aNil)) (aCons (dTup (aCons (dC (.str "0")) aNil)) (aCons (dTup (aCons (dC .none) aNil)) (aCons (dLst (aCons (dC (.int 0)) aNil)) (aCons (dC (.str "and")) aNil)))))))))))))))))))))) (sSeq (sIf (mOr (tTru (dIsi "bool" (bVar 1))) (mOr (mNot (tTru (dIsiT ["int", "tuple", "str"] (bVar 1)))) (tV (d2 dEqA (dPen 0 2 den__law_take (aCons (dC (.int 9)) aNil)) (dC (.int 0)))))) (sRet (dPen 0 2 den__law_one_of (aCons (dVar 2) aNil))) sNil) (sSeq (sIf (tTru (dIsi "int" (bVar 1))) (sRet (dPen 0 2 den__law_one_of (aCons (dLst (aCons (d2 dAdd (bVar 1) (dC (.int 1))) (aCons (dC (.int (-1))) (aCons (vIf (tV (dChain dLe dLt (dC (.int 0)) (bVar 1) (dC (.int 2)))) (d2 dEqA (bVar 1) (dC (.int 1))) (dC .none)) (aCons (dB gStr (aCons (bVar 1) aNil)) (aCons (d2 dAdd (bVar 1) (dC (.int 9))) aNil)))))) aNil))) sNil) (sSeq (sIf (tV (d2 dEqA (dB gLen (aCons (bVar 1) aNil)) (dC (.int 0)))) (sRet (dPen 0 2 den__law_one_of (aCons (dVar 2) aNil))) sNil) (sSeq (sPar2 3 4 (aCons (dPen 0 2 den__law_take (aCons (dB gLen (aCons (bVar 1) aNil)) aNil)) (aCons (dPen 0 2 den__law_take (aCons (dC (.int 16)) aNil)) aNil))) (sSeq (sIf (tTru (dIsi "str" (bVar 1))) (sRet (dPen 0 2 den__law_one_of (aCons (dLst (aCons (d2 dAdd (dSlice (bVar 1) dNoPart (dPart (bVar 3))) (dSlice (bVar 1) (dPart (d2 dAdd (bVar 3) (dC (.int 1)))) dNoPart)) (aCons (d2 dAdd (bVar 1) (d2 dIxA (bVar 1) (bVar 3))) (aCons (d1 dRev (bVar 1)) (aCons (dMA msUpper (bVar 1) aNil) (aCons (dB gList (aCons (bVar 1) aNil)) aNil)))))) aNil))) sNil) (sSeq (sIf (tV (d2 dGt (bVar 4) (dC (.int 3)))) (sRet (d2 dAdd (d2 dAdd (dSlice (bVar 1) dNoPart (dPart (bVar 3))) (dTup (aCons (dPen 0 2 self (aCons (d2 dIxA (bVar 1) (bVar 3)) aNil)) aNil))) (dSlice (bVar 1) (dPart (d2 dAdd (bVar 3) (dC (.int 1)))) dNoPart))) sNil) (sRet (d2 dIxA (dLst (aCons (d2 dAdd (dSlice (bVar 1) dNoPart (dPart (bVar 3))) (dSlice (bVar 1) (dPart (d2 dAdd (bVar 3) (dC (.int 1)))) dNoPart)) (aCons (d2 dAdd (d2 dAdd (dSlice (bVar 1) dNoPart (dPart (bVar 3))) (dSlice (bVar 1) (dPart (bVar 3)) (dPart (d2 dAdd (bVar 3) (dC (.int 1)))))) (dSlice (bVar 1) (dPart (bVar 3)) dNoPart)) (aCons (dB gList (aCons (bVar 1) aNil)) (aCons (d1 dRev (bVar 1)) aNil))))) (bVar 4))))))))))
def den__law_bent : Nat → List SV → M D
  | 0 => fun _ _ => .no
  | n + 1 => denOf 5 (b__law_bent (den__law_bent n))
theorem ok__law_bent (T : Tp K mg w) : ∀ n, FnG P w K mg base false (4 + n) T.t__law_bent.f T.t__law_bent.fd ["pen", "value"] (spG K (ecOf T) .v 2 (den__law_bent n))
  | 0 => fnG_no rfl
  | n + 1 => by
    have ih := ok__law_bent T n
    refine fnG_of (k := 4 + n) (N := n__law_bent) (ps := ["pen", "value"]) (body := b__law_bent (den__law_bent n)) T.t__law_bent.F sc__law_bent (.inl rfl) fun cdv A outer s H E hr hg => ?_
    exact (xs_cons (xs_set 2 sc__law_bent.nd (XE.v (x_lst (xa_cons x_non (xa_cons x_bl (xa_cons x_bl (xa_cons x_int (xa_cons x_int (xa_cons x_neg (xa_cons x_int (xa_cons x_int (xa_cons x_str (xa_cons x_str (xa_cons x_str (xa_cons x_str (xa_cons (x_tup xa_nil) (xa_cons (XE.v (x_lst xa_nil)) (xa_cons x_dict0 (xa_cons (x_tup (xa_cons x_int xa_nil)) (xa_cons (x_tup (xa_cons x_str xa_nil)) (xa_cons (x_tup (xa_cons x_non xa_nil)) (xa_cons (XE.v (x_lst (xa_cons x_int xa_nil))) (xa_cons x_str xa_nil))))))))))))))))))))))) (xs_cons (xs_if (XW.t (xw_or (xt_tru (XE.b (x_isi (T := "bool") (xb 1) (by decide) T.m_isinstance rfl T.m_bool rfl))) (xw_or (xt_not (xt_tru (XE.b (x_isiT (xb 1) (xty_cons (T := "int") (xty_cons (T := "tuple") (xty_cons (T := "str") xty_nil T.m_str rfl) T.m_tuple rfl) T.m_int rfl) (by decide) (by decide) T.m_isinstance rfl)))) (xw_or1 (xt_cmp (or_eqA (roomU0 hr)) od_eqA (XE.b (x_pen 0 (ok__law_take T) (hr.mono (by omega)) (fun h => nomatch h) T.t__law_take.G T.t__law_take.Kp T.t__law_take.B (passX (takes_of rfl rfl rfl rfl)) (xa_cons x_int xa_nil))) (XE.b x_int) rfl))))) (xs_one (xs_ret (x_pen 0 (ok__law_one_of T) (hr.mono (by omega)) (fun h => nomatch h) T.t__law_one_of.G T.t__law_one_of.Kp T.t__law_one_of.B (passX (takes_of rfl rfl rfl rfl)) (xa_cons (xv 2) xa_nil)))) xs_nil) (xs_cons (xs_if (xt_tru (XE.b (x_isi (T := "int") (xb 1) (by decide) T.m_isinstance rfl T.m_int rfl))) (xs_one (xs_ret (x_pen 0 (ok__law_one_of T) (hr.mono (by omega)) (fun h => nomatch h) T.t__law_one_of.G T.t__law_one_of.Kp T.t__law_one_of.B (passX (takes_of rfl rfl rfl rfl)) (xa_cons (XE.v (x_lst (xa_cons (x_op or_add od_add (xb 1) (XE.b x_int)) (xa_cons x_neg (xa_cons (x_if (xt_chain or_le or_lt od_le od_lt (XE.b x_int) (xb 1) (XE.b x_int)) (x_cmp (or_eqA (roomU0 hr)) od_eqA (xb 1) (XE.b x_int) rfl) x_non) (xa_cons (x_bty cr_str cd_str T.m_str rfl (xB_cons (xb 1) xB_nil)) (xa_cons (x_op or_add od_add (xb 1) (XE.b x_int)) xa_nil))))))) xa_nil)))) xs_nil) (xs_cons (xs_if (xt_cmp (or_eqA (roomU0 hr)) od_eqA (XE.b (x_blt call_len cd_len T.m_len rfl (xB_cons (xb 1) xB_nil))) (XE.b x_int) rfl) (xs_one (xs_ret (x_pen 0 (ok__law_one_of T) (hr.mono (by omega)) (fun h => nomatch h) T.t__law_one_of.G T.t__law_one_of.Kp T.t__law_one_of.B (passX (takes_of rfl rfl rfl rfl)) (xa_cons (xv 2) xa_nil)))) xs_nil) (xs_cons (xs_par2 3 4 rfl sc__law_bent.nd (xa_cons (x_pen 0 (ok__law_take T) (hr.mono (by omega)) (fun h => nomatch h) T.t__law_take.G T.t__law_take.Kp T.t__law_take.B (passX (takes_of rfl rfl rfl rfl)) (xa_cons (x_blt call_len cd_len T.m_len rfl (xB_cons (xb 1) xB_nil)) xa_nil)) (xa_cons (x_pen 0 (ok__law_take T) (hr.mono (by omega)) (fun h => nomatch h) T.t__law_take.G T.t__law_take.Kp T.t__law_take.B (passX (takes_of rfl rfl rfl rfl)) (xa_cons x_int xa_nil)) xa_nil)) (by rfl)) (xs_cons (xs_if (xt_tru (XE.b (x_isi (T := "str") (xb 1) (by decide) T.m_isinstance rfl T.m_str rfl))) (xs_one (xs_ret (x_pen 0 (ok__law_one_of T) (hr.mono (by omega)) (fun h => nomatch h) T.t__law_one_of.G T.t__law_one_of.Kp T.t__law_one_of.B (passX (takes_of rfl rfl rfl rfl)) (xa_cons (XE.v (x_lst (xa_cons (x_op or_add od_add (XE.b (x_slice (xb 1) xo_none (xo_some (xb 3)))) (XE.b (x_slice (xb 1) (xo_some (XE.b (x_op or_add od_add (xb 3) (XE.b x_int)))) xo_none))) (xa_cons (x_op or_add od_add (xb 1) (XE.b (x_ixA (roomU1 hr) (xb 1) (xb 3)))) (xa_cons (x_rev (xb 1)) (xa_cons (x_ma0 ms_upper (xb 1)) (xa_cons (XE.v (x_bty (cr_list rfl) cd_list T.m_list rfl (xB_cons (xb 1) xB_nil))) xa_nil))))))) xa_nil)))) xs_nil) (xs_cons (xs_if (xt_cmp or_gt od_gt (xb 4) (XE.b x_int) rfl) (xs_one (xs_ret (x_op or_add od_add (XE.b (x_op or_add od_add (XE.b (x_slice (xb 1) xo_none (xo_some (xb 3)))) (XE.b (x_tup (xa_cons (x_pen 0 ih (hr.mono (by omega)) hg T.t__law_bent.G T.t__law_bent.Kp T.t__law_bent.B (passX (takes_of rfl rfl rfl rfl)) (xa_cons (x_ixA (roomU1 hr) (xb 1) (xb 3)) xa_nil)) xa_nil))))) (XE.b (x_slice (xb 1) (xo_some (XE.b (x_op or_add od_add (xb 3) (XE.b x_int)))) xo_none))))) xs_nil) (xs_one (xs_ret (x_ixA (roomU1 hr) (XE.fb (x_lst (xa_cons (x_op or_add od_add (XE.b (x_slice (xb 1) xo_none (xo_some (xb 3)))) (XE.b (x_slice (xb 1) (xo_some (XE.b (x_op or_add od_add (xb 3) (XE.b x_int)))) xo_none))) (xa_cons (x_op or_add od_add (XE.b (x_op or_add od_add (XE.b (x_slice (xb 1) xo_none (xo_some (xb 3)))) (XE.b (x_slice (xb 1) (xo_some (xb 3)) (xo_some (XE.b (x_op or_add od_add (xb 3) (XE.b x_int)))))))) (XE.b (x_slice (xb 1) (xo_some (xb 3)) xo_none))) (xa_cons (XE.v (x_bty (cr_list rfl) cd_list T.m_list rfl (xB_cons (xb 1) xB_nil))) (xa_cons (x_rev (xb 1)) xa_nil)))))) (xb 4)))))))))))
abbrev n__law_is_word : List Str := ["thing", "bit"]
theorem sc__law_is_word : FnScope n__law_is_word ["thing"] (defScope s__law_is_word) := ⟨rfl, rfl, rfl, by decide +kernel, rfl, by decide +kernel, by decide +kernel⟩
def b__law_is_word : Vl.Env → M Fl := (sRet (vAnd (dIsi "str" (bVar 0)) (vAnd (dChain dLe dLe (dC (.int 1)) (dB gLen (aCons (bVar 0) aNil)) (dC (.int 32))) (d2 dEqA (dComp (itD (dVar 0)) (tgName 1) (tV (d2 dNotInA (bVar 1) (dC (.str "01?")))) (dC (.int 1)) [1]) (dLst aNil)))))
def den__law_is_word : List SV → M D := denOf 2 (b__law_is_word)
theorem ok__law_is_word (T : Tp K mg w) : FnG P w K mg base false 1 T.t__law_is_word.f T.t__law_is_word.fd ["thing"] (spG K (ecOf T) .v 1 (den__law_is_word)) := by
  refine fnG_of (k := 0) (N := n__law_is_word) (ps := ["thing"]) (body := b__law_is_word) T.t__law_is_word.F sc__law_is_word (.inl rfl) fun cdv A outer s H E hr hg => ?_
  exact (xs_one (xs_ret (x_and (x_isi (T := "str") (xb 0) (by decide) T.m_isinstance rfl T.m_str rfl) (x_and (x_chain or_le or_le od_le od_le (XE.b x_int) (XE.b (x_blt call_len cd_len T.m_len rfl (xB_cons (xb 0) xB_nil))) (XE.b x_int)) (x_one (x_cmp (or_eqA (roomU0 hr)) od_eqA (XE.fb (x_lc rfl sc__law_is_word.nd (xi_any (xv 0)) (own := [("bit", 1)]) (blkOk_by rfl) (fun _ _ _ _ _ => (xg_name 1 sc__law_is_word.nd)) (fun _ _ _ _ _ => (xts_one (xt_cmp (or_notinA (roomU hr)) od_notinA (xb 1) (XE.b x_str) rfl))) (fun _ _ _ _ _ => x_int))) (XE.fb (x_lst xa_nil)) rfl))))))
abbrev n__law_is_pair : List Str := ["thing", "most", "bits", "word"]
theorem sc__law_is_pair : FnScope n__law_is_pair ["thing", "most", "bits"] (defScope s__law_is_pair) := ⟨rfl, rfl, rfl, by decide +kernel, rfl, by decide +kernel, by decide +kernel⟩
def b__law_is_pair : Vl.Env → M Fl := (sSeq (sIf (mOr (mNot (tTru (dIsi "tuple" (bVar 0)))) (mOr (tV (d2 dNeA (dB gLen (aCons (bVar 0) aNil)) (dC (.int 2)))) (mOr (mNot (tTru (dIsi "int" (d2 dIxA (bVar 0) (dC (.int 0)))))) (tTru (dIsi "bool" (d2 dIxA (bVar 0) (dC (.int 0)))))))) (sRet (dC (.bool false))) sNil) (sSeq (sIf (mOr (mNot (tV (dChain dLe dLe (dC (.int 1)) (d2 dIxA (bVar 0) (dC (.int 0))) (bVar 1)))) (mOr (mNot (tTru (dIsi "tuple" (d2 dIxA (bVar 0) (dC (.int 1)))))) (tV (d2 dNeA (dB gLen (aCons (d2 dIxA (bVar 0) (dC (.int 1))) aNil)) (dB gLen (aCons (dCall 2 den__law_all (aCons (d2 dIxA (bVar 0) (dC (.int 0))) (aCons (dVar 2) aNil))) aNil)))))) (sRet (dC (.bool false))) sNil) (sSeq (sIf (tV (d2 dNeA (dComp (itD (d2 dIxA (bVar 0) (dC (.int 1)))) (tgName 3) (mNot (tTru (dCall 1 den__law_is_word (aCons (dVar 3) aNil)))) (dC (.int 1)) [3]) (dLst aNil))) (sRet (dC (.bool false))) sNil) (sRet (d2 dEqA (dComp (itD (d2 dIxA (bVar 0) (dC (.int 1)))) (tgName 3) (tV (d2 dNeA (dB gLen (aCons (bVar 3) aNil)) (dB gLen (aCons (d2 dIxA (d2 dIxA (bVar 0) (dC (.int 1))) (dC (.int 0))) aNil)))) (dC (.int 1)) [3]) (dLst aNil))))))
def den__law_is_pair : List SV → M D := denOf 4 (b__law_is_pair)
theorem ok__law_is_pair (T : Tp K mg w) : FnG P w K mg base false 2 T.t__law_is_pair.f T.t__law_is_pair.fd ["thing", "most", "bits"] (spG K (ecOf T) .v 3 (den__law_is_pair)) := by
  refine fnG_of (k := 1) (N := n__law_is_pair) (ps := ["thing", "most", "bits"]) (body := b__law_is_pair) T.t__law_is_pair.F sc__law_is_pair (.inl rfl) fun cdv A outer s H E hr hg => ?_
  exact (xs_cons (xs_if (XW.t (xw_or (xt_not (xt_tru (XE.b (x_isi (T := "tuple") (xb 0) (by decide) T.m_isinstance rfl T.m_tuple rfl)))) (xw_or (xt_cmp (or_neA (roomU0 hr)) od_neA (XE.b (x_blt call_len cd_len T.m_len rfl (xB_cons (xb 0) xB_nil))) (XE.b x_int) rfl) (xw_or (xt_not (xt_tru (XE.b (x_isi (T := "int") (XE.b (x_ixA (roomU1 hr) (xb 0) (XE.b x_int))) (by decide) T.m_isinstance rfl T.m_int rfl)))) (xw_or1 (xt_tru (XE.b (x_isi (T := "bool") (XE.b (x_ixA (roomU1 hr) (xb 0) (XE.b x_int))) (by decide) T.m_isinstance rfl T.m_bool rfl)))))))) (xs_one (xs_ret x_bl)) xs_nil) (xs_cons (xs_if (XW.t (xw_or (xt_not (xt_chain or_le or_le od_le od_le (XE.b x_int) (XE.b (x_ixA (roomU1 hr) (xb 0) (XE.b x_int))) (xb 1))) (xw_or (xt_not (xt_tru (XE.b (x_isi (T := "tuple") (XE.b (x_ixA (roomU1 hr) (xb 0) (XE.b x_int))) (by decide) T.m_isinstance rfl T.m_tuple rfl)))) (xw_or1 (xt_cmp (or_neA (roomU0 hr)) od_neA (XE.b (x_blt call_len cd_len T.m_len rfl (xB_cons (XE.b (x_ixA (roomU1 hr) (xb 0) (XE.b x_int))) xB_nil))) (XE.b (x_blt call_len cd_len T.m_len rfl (xB_cons (XE.b (x_call (ok__law_all T) (hr.mono (by omega)) (fun h => nomatch h) T.t__law_all.G T.t__law_all.Kp T.t__law_all.B (passX (takes_of rfl rfl rfl rfl)) (xa_cons (x_ixA (roomU1 hr) (xb 0) (XE.b x_int)) (xa_cons (xv 2) xa_nil)))) xB_nil))) rfl))))) (xs_one (xs_ret x_bl)) xs_nil) (xs_cons (xs_if (xt_cmp (or_neA (roomU0 hr)) od_neA (XE.fb (x_lc rfl sc__law_is_pair.nd (xi_any (x_ixA (roomU1 hr) (xb 0) (XE.b x_int))) (own := [("word", 3)]) (blkOk_by rfl) (fun _ _ _ _ _ => (xg_name 3 sc__law_is_pair.nd)) (fun _ _ _ _ _ => (xts_one (xt_not (xt_tru (XE.b (x_call (ok__law_is_word T) (hr.mono (by omega)) (fun h => nomatch h) T.t__law_is_word.G T.t__law_is_word.Kp T.t__law_is_word.B passX0 (xa_cons (xv 3) xa_nil))))))) (fun _ _ _ _ _ => x_int))) (XE.fb (x_lst xa_nil)) rfl) (xs_one (xs_ret x_bl)) xs_nil) (xs_one (xs_ret (x_cmp (or_eqA (roomU0 hr)) od_eqA (XE.fb (x_lc rfl sc__law_is_pair.nd (xi_any (x_ixA (roomU1 hr) (xb 0) (XE.b x_int))) (own := [("word", 3)]) (blkOk_by rfl) (fun _ _ _ _ _ => (xg_name 3 sc__law_is_pair.nd)) (fun _ _ _ _ _ => (xts_one (xt_cmp (or_neA (roomU0 hr)) od_neA (XE.b (x_blt call_len cd_len T.m_len rfl (xB_cons (xb 3) xB_nil))) (XE.b (x_blt call_len cd_len T.m_len rfl (xB_cons (XE.b (x_ixA (roomU1 hr) (XE.b (x_ixA (roomU1 hr) (xb 0) (XE.b x_int))) (XE.b x_int))) xB_nil))) rfl))) (fun _ _ _ _ _ => x_int))) (XE.fb (x_lst xa_nil)) rfl))))))
abbrev n__law_is_table : List Str := ["thing", "word"]
theorem sc__law_is_table : FnScope n__law_is_table ["thing"] (defScope s__law_is_table) := ⟨rfl, rfl, rfl, by decide +kernel, rfl, by decide +kernel, by decide +kernel⟩
def b__law_is_table : Vl.Env → M Fl := (sRet (vAnd (dCall 3 den__law_is_pair (aCons (dVar 0) (aCons (dC (.int 6)) (aCons (dC (.str "01")) aNil)))) (d2 dEqA (dComp (itD (d2 dIxA (bVar 0) (dC (.int 1)))) (tgName 1) (tV (d2 dInA (dC (.str "?")) (bVar 1))) (dC (.int 1)) [1]) (dLst aNil))))
def den__law_is_table : List SV → M D := denOf 2 (b__law_is_table)
theorem ok__law_is_table (T : Tp K mg w) : FnG P w K mg base false 3 T.t__law_is_table.f T.t__law_is_table.fd ["thing"] (spG K (ecOf T) .v 1 (den__law_is_table)) := by
  refine fnG_of (k := 2) (N := n__law_is_table) (ps := ["thing"]) (body := b__law_is_table) T.t__law_is_table.F sc__law_is_table (.inl rfl) fun cdv A outer s H E hr hg => ?_
  exact (xs_one (xs_ret (x_and (x_call (ok__law_is_pair T) (hr.mono (by omega)) (fun h => nomatch h) T.t__law_is_pair.G T.t__law_is_pair.Kp T.t__law_is_pair.B (passX (takes_of rfl rfl rfl rfl)) (xa_cons (xv 0) (xa_cons x_int (xa_cons x_str xa_nil)))) (x_one (x_cmp (or_eqA (roomU0 hr)) od_eqA (XE.fb (x_lc rfl sc__law_is_table.nd (xi_any (x_ixA (roomU1 hr) (xb 0) (XE.b x_int))) (own := [("word", 1)]) (blkOk_by rfl) (fun _ _ _ _ _ => (xg_name 1 sc__law_is_table.nd)) (fun _ _ _ _ _ => (xts_one (xt_cmp (or_inA (roomU hr)) od_inA (XE.b x_str) (xb 1) rfl))) (fun _ _ _ _ _ => x_int))) (XE.fb (x_lst xa_nil)) rfl)))))
abbrev n__law_odd : List Str := ["pair", "n", "rows", "odd", "row"]
theorem sc__law_odd : FnScope n__law_odd ["pair"] (defScope s__law_odd) := ⟨rfl, rfl, rfl, by decide +kernel, rfl, by decide +kernel, by decide +kernel⟩
def b__law_odd : Vl.Env → M Fl := (sSeq (sAsg (dVar 0) (tgTup 2 (tgCons (tgName 1) (tgCons (tgName 2) tgNil)))) (sSeq (sOwn 3 (dLst (aCons (dC .none) (aCons (dTup aNil) (aCons (dVar 2) (aCons (dTup (aCons (dVar 1) aNil)) (aCons (dB gList (aCons (bVar 0) aNil)) (aCons (d2 dAdd (bVar 0) (dTup (aCons (dC (.int 0)) aNil))) (aCons (dTup (aCons (dVar 1) (aCons (dB gList (aCons (bVar 2) aNil)) aNil))) (aCons (dTup (aCons (dVar 1) (aCons (dSlice (bVar 2) (dPart (dC (.int 1))) dNoPart) aNil))) (aCons (dTup (aCons (dVar 1) (aCons (d2 dAdd (bVar 2) (dSlice (bVar 2) dNoPart (dPart (dC (.int 1))))) aNil))) (aCons (dC (.int 7)) (aCons (dC (.dict [])) aNil))))))))))))) (sSeq (sOwn 3 (d2 dCat (bVar 3) (dLst (aCons (dTup (aCons (dC (.int 0)) (aCons (dSlice (bVar 2) dNoPart (dPart (dC (.int 1)))) aNil))) (aCons (dTup (aCons (d2 dAdd (bVar 1) (dC (.int 1))) (aCons (dVar 2) aNil))) (aCons (dTup (aCons (dC (.bool true)) (aCons (dSlice (bVar 2) dNoPart (dPart (dC (.int 2)))) aNil))) (aCons (dTup (aCons (dVar 1) (aCons (d2 dAdd (dSlice (bVar 2) dNoPart (dPart (dC (.int (-1))))) (dTup (aCons (dC (.str "")) aNil))) aNil))) (aCons (dTup (aCons (dVar 1) (aCons (d2 dAdd (dSlice (bVar 2) dNoPart (dPart (dC (.int (-1))))) (dTup (aCons (dC .none) aNil))) aNil))) aNil)))))))) (sSeq (sOwn 3 (d2 dCat (bVar 3) (dLst (aCons (dTup (aCons (dVar 1) (aCons (d2 dAdd (dSlice (bVar 2) dNoPart (dPart (dC (.int (-1))))) (dTup (aCons (d2 dAdd (d2 dIxA (bVar 2) (dC (.int (-1)))) (dC (.str "0"))) aNil))) aNil))) (aCons (dTup (aCons (dVar 1) (aCons (d2 dAdd (dSlice (bVar 2) dNoPart (dPart (dC (.int (-1))))) (dTup (aCons (d2 dMul (dC (.str "?")) (dB gLen (aCons (d2 dIxA (bVar 2) (dC (.int 0))) aNil))) aNil))) aNil))) (aCons (dC (.str "table")) aNil)))))) (sSeq (sApp 3 (dTup (aCons (dVar 1) (aCons (d2 dAdd (dSlice (bVar 2) dNoPart (dPart (dC (.int (-1))))) (dTup (aCons (d2 dMul (dC (.str "x")) (dB gLen (aCons (d2 dIxA (bVar 2) (dC (.int 0))) aNil))) aNil))) aNil)))) (sRet (d2 dCat (bVar 3) (dLst (aCons (dTup (aCons (dVar 1) (aCons (dB gTuple (aCons (dComp (itD (dVar 2)) (tgName 4) tsNil (d2 dMul (bVar 4) (dC (.int 33))) [4]) aNil)) aNil))) (aCons (dTup (aCons (dVar 1) (aCons (d2 dAdd (dSlice (bVar 2) dNoPart (dPart (dC (.int (-1))))) (dTup (aCons (dLst (aCons (d2 dIxA (bVar 2) (dC (.int (-1)))) aNil)) aNil))) aNil))) (aCons (dTup (aCons (dB gStr (aCons (bVar 1) aNil)) (aCons (dVar 2) aNil))) (aCons (dTup (aCons (dVar 1) (aCons (d2 dMul (bVar 2) (dC (.int 2))) aNil))) aNil))))))))))))
def den__law_odd : List SV → M D := denOf 5 (b__law_odd)
theorem ok__law_odd (T : Tp K mg w) : FnG P w K mg base false 1 T.t__law_odd.f T.t__law_odd.fd ["pair"] (spG K (ecOf T) .v 1 (den__law_odd)) := by
  refine fnG_of (k := 0) (N := n__law_odd) (ps := ["pair"]) (body := b__law_odd) T.t__law_odd.F sc__law_odd (.inl rfl) fun cdv A outer s H E hr hg => ?_
  exact (xs_cons (xs_asg (xv 0) (xg_tup 2 rfl (xgs_cons (xg_name 1 sc__law_odd.nd) (xgs_cons (xg_name 2 sc__law_odd.nd) xgs_nil)))) (xs_cons (xs_own 3 sc__law_odd.nd (x_lst (xa_cons x_non (xa_cons (x_tup xa_nil) (xa_cons (xv 2) (xa_cons (x_tup (xa_cons (xv 1) xa_nil)) (xa_cons (XE.v (x_bty (cr_list rfl) cd_list T.m_list rfl (xB_cons (xb 0) xB_nil))) (xa_cons (x_op or_add od_add (xb 0) (XE.b (x_tup (xa_cons x_int xa_nil)))) (xa_cons (x_tup (xa_cons (xv 1) (xa_cons (XE.v (x_bty (cr_list rfl) cd_list T.m_list rfl (xB_cons (xb 2) xB_nil))) xa_nil))) (xa_cons (x_tup (xa_cons (xv 1) (xa_cons (x_slice (xb 2) (xo_some (XE.b x_int)) xo_none) xa_nil))) (xa_cons (x_tup (xa_cons (xv 1) (xa_cons (x_op or_add od_add (xb 2) (XE.b (x_slice (xb 2) xo_none (xo_some (XE.b x_int))))) xa_nil))) (xa_cons x_int (xa_cons x_dict0 xa_nil))))))))))))) (xs_cons (xs_own 3 sc__law_odd.nd (x_op op_cat od_cat (xb 3) (XE.fb (x_lst (xa_cons (x_tup (xa_cons x_int (xa_cons (x_slice (xb 2) xo_none (xo_some (XE.b x_int))) xa_nil))) (xa_cons (x_tup (xa_cons (x_op or_add od_add (xb 1) (XE.b x_int)) (xa_cons (xv 2) xa_nil))) (xa_cons (x_tup (xa_cons x_bl (xa_cons (x_slice (xb 2) xo_none (xo_some (XE.b x_int))) xa_nil))) (xa_cons (x_tup (xa_cons (xv 1) (xa_cons (x_op or_add od_add (XE.b (x_slice (xb 2) xo_none (xo_some (XE.b x_neg)))) (XE.b (x_tup (xa_cons x_str xa_nil)))) xa_nil))) (xa_cons (x_tup (xa_cons (xv 1) (xa_cons (x_op or_add od_add (XE.b (x_slice (xb 2) xo_none (xo_some (XE.b x_neg)))) (XE.b (x_tup (xa_cons x_non xa_nil)))) xa_nil))) xa_nil))))))))) (xs_cons (xs_own 3 sc__law_odd.nd (x_op op_cat od_cat (xb 3) (XE.fb (x_lst (xa_cons (x_tup (xa_cons (xv 1) (xa_cons (x_op or_add od_add (XE.b (x_slice (xb 2) xo_none (xo_some (XE.b x_neg)))) (XE.b (x_tup (xa_cons (x_op or_add od_add (XE.b (x_ixA (roomU1 hr) (xb 2) (XE.b x_neg))) (XE.b x_str)) xa_nil)))) xa_nil))) (xa_cons (x_tup (xa_cons (xv 1) (xa_cons (x_op or_add od_add (XE.b (x_slice (xb 2) xo_none (xo_some (XE.b x_neg)))) (XE.b (x_tup (xa_cons (x_op or_mul od_mul (XE.b x_str) (XE.b (x_blt call_len cd_len T.m_len rfl (xB_cons (XE.b (x_ixA (roomU1 hr) (xb 2) (XE.b x_int))) xB_nil)))) xa_nil)))) xa_nil))) (xa_cons x_str xa_nil))))))) (xs_cons (xs_app 3 (x_tup (xa_cons (xv 1) (xa_cons (x_op or_add od_add (XE.b (x_slice (xb 2) xo_none (xo_some (XE.b x_neg)))) (XE.b (x_tup (xa_cons (x_op or_mul od_mul (XE.b x_str) (XE.b (x_blt call_len cd_len T.m_len rfl (xB_cons (XE.b (x_ixA (roomU1 hr) (xb 2) (XE.b x_int))) xB_nil)))) xa_nil)))) xa_nil)))) (xs_one (xs_ret (XE.v (x_op op_cat od_cat (xb 3) (XE.fb (x_lst (xa_cons (x_tup (xa_cons (xv 1) (xa_cons (x_bty call_tupF cd_tuple T.m_tuple rfl (xB_cons (XE.fb (x_lc rfl sc__law_odd.nd (xi_any (xv 2)) (own := [("row", 4)]) (blkOk_by rfl) (fun _ _ _ _ _ => (xg_name 4 sc__law_odd.nd)) (fun _ _ _ _ _ => xts_nil) (fun _ _ _ _ _ => (x_op or_mul od_mul (xb 4) (XE.b x_int))))) xB_nil)) xa_nil))) (xa_cons (x_tup (xa_cons (xv 1) (xa_cons (x_op or_add od_add (XE.b (x_slice (xb 2) xo_none (xo_some (XE.b x_neg)))) (XE.b (x_tup (xa_cons (XE.v (x_lst (xa_cons (x_ixA (roomU1 hr) (xb 2) (XE.b x_neg)) xa_nil))) xa_nil)))) xa_nil))) (xa_cons (x_tup (xa_cons (x_bty cr_str cd_str T.m_str rfl (xB_cons (xb 1) xB_nil)) (xa_cons (xv 2) xa_nil))) (xa_cons (x_tup (xa_cons (xv 1) (xa_cons (x_op or_mul od_mul (xb 2) (XE.b x_int)) xa_nil))) xa_nil)))))))))))))))
abbrev n_are_gates : List Str := ["thing", "n", "own", "gate"]
theorem sc_are_gates : FnScope n_are_gates ["thing", "n"] (defScope s_are_gates) := ⟨rfl, rfl, rfl, by decide +kernel, rfl, by decide +kernel, by decide +kernel⟩
def b_are_gates : Vl.Env → M Fl := (sSeq (sIf (mOr (mNot (tTru (dIsi "tuple" (bVar 0)))) (tV (d2 dGt (dB gLen (aCons (bVar 0) aNil)) (dC (.int 100000))))) (sRet (dC (.bool false))) sNil) (sSeq (sFor (itES (dVar 0) (dVar 1)) (tgTup 2 (tgCons (tgName 2) (tgCons (tgName 3) tgNil))) (sIf (mNot (tTru (dCall 2 den_is_gate (aCons (dVar 3) (aCons (dVar 2) aNil))))) (sRet (dC (.bool false))) sNil)) (sRet (dC (.bool true)))))
def den_are_gates : List SV → M D := denOf 4 (b_are_gates)
theorem ok_are_gates (T : Tp K mg w) : FnG P w K mg base false 3 T.t_are_gates.f T.t_are_gates.fd ["thing", "n"] (spG K (ecOf T) .v 2 (den_are_gates)) := by
  refine fnG_of (k := 2) (N := n_are_gates) (ps := ["thing", "n"]) (body := b_are_gates) T.t_are_gates.F sc_are_gates (.inl rfl) fun cdv A outer s H E hr hg => ?_
  exact (xs_cons (xs_if (XW.t (xw_or (xt_not (xt_tru (XE.b (x_isi (T := "tuple") (xb 0) (by decide) T.m_isinstance rfl T.m_tuple rfl)))) (xw_or1 (xt_cmp or_gt od_gt (XE.b (x_blt call_len cd_len T.m_len rfl (xB_cons (xb 0) xB_nil))) (XE.b (x_gInt T.c_MOST_GATES)) rfl)))) (xs_one (xs_ret x_bl)) xs_nil) (xs_cons (xs_for (passes_of rfl) rfl (xi_enumS T.m_enumerate (xv 0) (xv 1)) (xg_tup 2 rfl (xgs_cons (xg_name 2 sc_are_gates.nd) (xgs_cons (xg_name 3 sc_are_gates.nd) xgs_nil))) (xs_one (xs_if (xt_not (xt_tru (XE.b (x_call (ok_is_gate T) (hr.mono (by omega)) (fun h => nomatch h) T.t_is_gate.G T.t_is_gate.Kp T.t_is_gate.B (passX (takes_of rfl rfl rfl rfl)) (xa_cons (xv 3) (xa_cons (xv 2) xa_nil)))))) (xs_one (xs_ret x_bl)) xs_nil))) (xs_one (xs_ret x_bl))))
abbrev n_answers_at : List Str := ["net", "words", "n", "gates", "outs", "stands", "at", "everywhere", "gate", "shown", "number", "pair", "k"]
theorem sc_answers_at : FnScope n_answers_at ["net", "words"] (defScope s_answers_at) := ⟨rfl, rfl, rfl, by decide +kernel, rfl, by decide +kernel, by decide +kernel⟩
def b_answers_at : Vl.Env → M Fl := (sSeq (sAsg (dVar 0) (tgTup 3 (tgCons (tgName 2) (tgCons (tgName 3) (tgCons (tgName 4) tgNil))))) (sSeq (sOwn 5 (dComp (itR1 (aCons (bVar 2) aNil)) (tgName 6) tsNil (dTup (aCons (dCall 3 den_marked (aCons (dVar 1) (aCons (dVar 6) (aCons (dC (.str "1")) aNil)))) (aCons (dCall 3 den_marked (aCons (dVar 1) (aCons (dVar 6) (aCons (dC (.str "0")) aNil)))) aNil))) [6])) (sSeq (sSet 7 (d2 dSub (d2 dShl (dC (.int 1)) (dB gLen (aCons (bVar 1) aNil))) (dC (.int 1)))) (sSeq (sFor (itD (dVar 3)) (tgName 8) (sApp 5 (dCallT 3 den_let_through (aCons (bVar 8) (aCons (bVar 5) (aCons (bVar 7) aNil)))))) (sSeq (sOwn 9 (dComp (itD (dVar 4)) (tgName 10) tsNil (d2 dIxA (bVar 5) (bVar 10)) [10])) (sShare 9 (sRet (dComp (itR1 (aCons (dB gLen (aCons (bVar 1) aNil)) aNil)) (tgName 12) tsNil (dMA msJoin (dC (.str "")) (aCons (dComp (itD (dVar 9)) (tgName 11) tsNil (dCall 2 den_sign_at (aCons (dVar 11) (aCons (dVar 12) aNil))) [11]) aNil)) [12]))))))))
def den_answers_at : List SV → M D := denOf 13 (b_answers_at)
theorem ok_answers_at (T : Tp K mg w) : FnG P w K mg base false 2 T.t_answers_at.f T.t_answers_at.fd ["net", "words"] (spG K (ecOf T) .v 2 (den_answers_at)) := by
  refine fnG_of (k := 1) (N := n_answers_at) (ps := ["net", "words"]) (body := b_answers_at) T.t_answers_at.F sc_answers_at (.inl rfl) fun cdv A outer s H E hr hg => ?_
  exact (xs_cons (xs_asg (xv 0) (xg_tup 3 rfl (xgs_cons (xg_name 2 sc_answers_at.nd) (xgs_cons (xg_name 3 sc_answers_at.nd) (xgs_cons (xg_name 4 sc_answers_at.nd) xgs_nil))))) (xs_cons (xs_own 5 sc_answers_at.nd (x_lc rfl sc_answers_at.nd (xi_range1 T.m_range (xB_cons (xb 2) xB_nil)) (own := [("at", 6)]) (blkOk_by rfl) (fun _ _ _ _ _ => (xg_name 6 sc_answers_at.nd)) (fun _ _ _ _ _ => xts_nil) (fun _ _ _ _ _ => (x_tup (xa_cons (x_call (ok_marked T) (hr.mono (by omega)) (fun h => nomatch h) T.t_marked.G T.t_marked.Kp T.t_marked.B passX0 (xa_cons (xv 1) (xa_cons (xv 6) (xa_cons x_str xa_nil)))) (xa_cons (x_call (ok_marked T) (hr.mono (by omega)) (fun h => nomatch h) T.t_marked.G T.t_marked.Kp T.t_marked.B passX0 (xa_cons (xv 1) (xa_cons (xv 6) (xa_cons x_str xa_nil)))) xa_nil)))))) (xs_cons (xs_set 7 sc_answers_at.nd (x_op op_sub od_sub (XE.b (x_op op_shl od_shl (XE.b x_int) (XE.b (x_blt call_len cd_len T.m_len rfl (xB_cons (xb 1) xB_nil))))) (XE.b x_int))) (xs_cons (xs_for (passes_of rfl) rfl (xi_any (xv 3)) (xg_name 8 sc_answers_at.nd) (xs_one (xs_app 5 (x_callT (ok_let_through T) (hr.mono (by omega)) (fun h => nomatch h) T.t_let_through.G T.t_let_through.Kp T.t_let_through.B (passX (takes_of rfl rfl rfl rfl)) (xB_cons (xb 8) (xB_cons (xb 5) (xB_cons (xb 7) xB_nil))))))) (xs_cons (xs_own 9 sc_answers_at.nd (x_lc rfl sc_answers_at.nd (xi_any (xv 4)) (own := [("number", 10)]) (blkOk_by rfl) (fun _ _ _ _ _ => (xg_name 10 sc_answers_at.nd)) (fun _ _ _ _ _ => xts_nil) (fun _ _ _ _ _ => (x_ixA (roomU1 hr) (xb 5) (xb 10))))) (xs_share 9 (xs_one (xs_ret (XE.v (x_lc rfl sc_answers_at.nd (xi_range1 T.m_range (xB_cons (XE.b (x_blt call_len cd_len T.m_len rfl (xB_cons (xb 1) xB_nil))) xB_nil)) (own := [("k", 12)]) (blkOk_by rfl) (fun _ _ _ _ _ => (xg_name 12 sc_answers_at.nd)) (fun _ _ _ _ _ => xts_nil) (fun _ _ _ _ _ => (x_ma ms_join (XE.b x_str) (xB_cons (XE.fb (x_lc rfl sc_answers_at.nd (xi_any (xv 9)) (own := [("pair", 11)]) (blkOk_by rfl) (fun _ _ _ _ _ => (xg_name 11 sc_answers_at.nd)) (fun _ _ _ _ _ => xts_nil) (fun _ _ _ _ _ => (x_call (ok_sign_at T) (hr.mono (by omega)) (fun h => nomatch h) T.t_sign_at.G T.t_sign_at.Kp T.t_sign_at.B passX0 (xa_cons (xv 11) (xa_cons (xv 12) xa_nil)))))) xB_nil)))))))))))))
abbrev n_is_table : List Str := ["thing", "n", "rows", "row"]
theorem sc_is_table : FnScope n_is_table ["thing"] (defScope s_is_table) := ⟨rfl, rfl, rfl, by decide +kernel, rfl, by decide +kernel, by decide +kernel⟩
def b_is_table : Vl.Env → M Fl := (sSeq (sIf (mNot (tTru (dCall 2 den_has_rows (aCons (dVar 0) (aCons (dC (.int 6)) aNil))))) (sRet (dC (.bool false))) sNil) (sSeq (sAsg (dVar 0) (tgTup 2 (tgCons (tgName 1) (tgCons (tgName 2) tgNil)))) (sSeq (sIf (mOr (tV (d2 dNeA (dB gLen (aCons (bVar 2) aNil)) (dB gLen (aCons (dCall 1 den_settled_words (aCons (dVar 1) aNil)) aNil)))) (mNot (tTru (dCall 1 den_are_alike (aCons (dVar 2) aNil))))) (sRet (dC (.bool false))) sNil) (sRet (dB gAll (aCons (dComp (itD (dVar 2)) (tgName 3) tsNil (d2 dNotInA (dC (.str "?")) (bVar 3)) [3]) aNil))))))
def den_is_table : List SV → M D := denOf 4 (b_is_table)
theorem ok_is_table (T : Tp K mg w) : FnG P w K mg base false 4 T.t_is_table.f T.t_is_table.fd ["thing"] (spG K (ecOf T) .v 1 (den_is_table)) := by
  refine fnG_of (k := 3) (N := n_is_table) (ps := ["thing"]) (body := b_is_table) T.t_is_table.F sc_is_table (.inl rfl) fun cdv A outer s H E hr hg => ?_
  exact (xs_cons (xs_if (xt_not (xt_tru (XE.b (x_call (ok_has_rows T) (hr.mono (by omega)) (fun h => nomatch h) T.t_has_rows.G T.t_has_rows.Kp T.t_has_rows.B (passX (takes_of rfl rfl rfl rfl)) (xa_cons (xv 0) (xa_cons (x_gInt T.c_MOST_TABLE_INPUTS) xa_nil)))))) (xs_one (xs_ret x_bl)) xs_nil) (xs_cons (xs_asg (xv 0) (xg_tup 2 rfl (xgs_cons (xg_name 1 sc_is_table.nd) (xgs_cons (xg_name 2 sc_is_table.nd) xgs_nil)))) (xs_cons (xs_if (XW.t (xw_or (xt_cmp (or_neA (roomU0 hr)) od_neA (XE.b (x_blt call_len cd_len T.m_len rfl (xB_cons (xb 2) xB_nil))) (XE.b (x_blt call_len cd_len T.m_len rfl (xB_cons (XE.b (x_call (ok_settled_words T) (hr.mono (by omega)) (fun h => nomatch h) T.t_settled_words.G T.t_settled_words.Kp T.t_settled_words.B (passX (takes_of rfl rfl rfl rfl)) (xa_cons (xv 1) xa_nil))) xB_nil))) rfl) (xw_or1 (xt_not (xt_tru (XE.b (x_call (ok_are_alike T) (hr.mono (by omega)) (fun h => nomatch h) T.t_are_alike.G T.t_are_alike.Kp T.t_are_alike.B (passX (takes_of rfl rfl rfl rfl)) (xa_cons (xv 2) xa_nil)))))))) (xs_one (xs_ret x_bl)) xs_nil) (xs_one (xs_ret (x_blt (cr_all rfl) cd_all T.m_all rfl (xB_cons (XE.fb (x_lc rfl sc_is_table.nd (xi_any (xv 2)) (own := [("row", 3)]) (blkOk_by rfl) (fun _ _ _ _ _ => (xg_name 3 sc_is_table.nd)) (fun _ _ _ _ _ => xts_nil) (fun _ _ _ _ _ => (x_cmp (or_notinA (roomU hr)) od_notinA (XE.b x_str) (xb 3) rfl)))) xB_nil)))))))
abbrev n_is_telling : List Str := ["thing", "n", "rows"]
theorem sc_is_telling : FnScope n_is_telling ["thing"] (defScope s_is_telling) := ⟨rfl, rfl, rfl, by decide +kernel, rfl, by decide +kernel, by decide +kernel⟩
def b_is_telling : Vl.Env → M Fl := (sSeq (sIf (mNot (tTru (dCall 2 den_has_rows (aCons (dVar 0) (aCons (dC (.int 5)) aNil))))) (sRet (dC (.bool false))) sNil) (sSeq (sAsg (dVar 0) (tgTup 2 (tgCons (tgName 1) (tgCons (tgName 2) tgNil)))) (sRet (vAnd (d2 dEqA (dB gLen (aCons (bVar 2) aNil)) (dB gLen (aCons (dCall 1 den_all_words (aCons (dVar 1) aNil)) aNil))) (dCall 1 den_are_alike (aCons (dVar 2) aNil))))))
def den_is_telling : List SV → M D := denOf 3 (b_is_telling)
theorem ok_is_telling (T : Tp K mg w) : FnG P w K mg base false 4 T.t_is_telling.f T.t_is_telling.fd ["thing"] (spG K (ecOf T) .v 1 (den_is_telling)) := by
  refine fnG_of (k := 3) (N := n_is_telling) (ps := ["thing"]) (body := b_is_telling) T.t_is_telling.F sc_is_telling (.inl rfl) fun cdv A outer s H E hr hg => ?_
  exact (xs_cons (xs_if (xt_not (xt_tru (XE.b (x_call (ok_has_rows T) (hr.mono (by omega)) (fun h => nomatch h) T.t_has_rows.G T.t_has_rows.Kp T.t_has_rows.B (passX (takes_of rfl rfl rfl rfl)) (xa_cons (xv 0) (xa_cons (x_gInt T.c_MOST_TELLING_INPUTS) xa_nil)))))) (xs_one (xs_ret x_bl)) xs_nil) (xs_cons (xs_asg (xv 0) (xg_tup 2 rfl (xgs_cons (xg_name 1 sc_is_telling.nd) (xgs_cons (xg_name 2 sc_is_telling.nd) xgs_nil)))) (xs_one (xs_ret (x_and (x_cmp (or_eqA (roomU0 hr)) od_eqA (XE.b (x_blt call_len cd_len T.m_len rfl (xB_cons (xb 2) xB_nil))) (XE.b (x_blt call_len cd_len T.m_len rfl (xB_cons (XE.b (x_call (ok_all_words T) (hr.mono (by omega)) (fun h => nomatch h) T.t_all_words.G T.t_all_words.Kp T.t_all_words.B (passX (takes_of rfl rfl rfl rfl)) (xa_cons (xv 1) xa_nil))) xB_nil))) rfl) (x_one (x_call (ok_are_alike T) (hr.mono (by omega)) (fun h => nomatch h) T.t_are_alike.G T.t_are_alike.Kp T.t_are_alike.B (passX (takes_of rfl rfl rfl rfl)) (xa_cons (xv 2) xa_nil))))))))
abbrev n_is_net : List Str := ["thing", "n", "gates", "outs"]
theorem sc_is_net : FnScope n_is_net ["thing"] (defScope s_is_net) := ⟨rfl, rfl, rfl, by decide +kernel, rfl, by decide +kernel, by decide +kernel⟩
def b_is_net : Vl.Env → M Fl := (sSeq (sIf (mOr (mNot (tTru (dIsi "tuple" (bVar 0)))) (tV (d2 dNeA (dB gLen (aCons (bVar 0) aNil)) (dC (.int 3))))) (sRet (dC (.bool false))) sNil) (sSeq (sAsg (dVar 0) (tgTup 3 (tgCons (tgName 1) (tgCons (tgName 2) (tgCons (tgName 3) tgNil))))) (sSeq (sIf (mNot (tTru (dCall 3 den_is_count (aCons (dVar 1) (aCons (dC (.int 1)) (aCons (dC (.int 32)) aNil)))))) (sRet (dC (.bool false))) sNil) (sRet (vAnd (dCall 2 den_are_gates (aCons (dVar 2) (aCons (dVar 1) aNil))) (dCall 2 den_are_outs (aCons (dVar 3) (aCons (d2 dAdd (bVar 1) (dB gLen (aCons (bVar 2) aNil))) aNil))))))))
def den_is_net : List SV → M D := denOf 4 (b_is_net)
theorem ok_is_net (T : Tp K mg w) : FnG P w K mg base false 4 T.t_is_net.f T.t_is_net.fd ["thing"] (spG K (ecOf T) .v 1 (den_is_net)) := by
  refine fnG_of (k := 3) (N := n_is_net) (ps := ["thing"]) (body := b_is_net) T.t_is_net.F sc_is_net (.inl rfl) fun cdv A outer s H E hr hg => ?_
  exact (xs_cons (xs_if (XW.t (xw_or (xt_not (xt_tru (XE.b (x_isi (T := "tuple") (xb 0) (by decide) T.m_isinstance rfl T.m_tuple rfl)))) (xw_or1 (xt_cmp (or_neA (roomU0 hr)) od_neA (XE.b (x_blt call_len cd_len T.m_len rfl (xB_cons (xb 0) xB_nil))) (XE.b x_int) rfl)))) (xs_one (xs_ret x_bl)) xs_nil) (xs_cons (xs_asg (xv 0) (xg_tup 3 rfl (xgs_cons (xg_name 1 sc_is_net.nd) (xgs_cons (xg_name 2 sc_is_net.nd) (xgs_cons (xg_name 3 sc_is_net.nd) xgs_nil))))) (xs_cons (xs_if (xt_not (xt_tru (XE.b (x_call (ok_is_count T) (hr.mono (by omega)) (fun h => nomatch h) T.t_is_count.G T.t_is_count.Kp T.t_is_count.B (passX (takes_of rfl rfl rfl rfl)) (xa_cons (xv 1) (xa_cons x_int (xa_cons (x_gInt T.c_MOST_INPUTS) xa_nil))))))) (xs_one (xs_ret x_bl)) xs_nil) (xs_one (xs_ret (x_and (x_call (ok_are_gates T) (hr.mono (by omega)) (fun h => nomatch h) T.t_are_gates.G T.t_are_gates.Kp T.t_are_gates.B (passX (takes_of rfl rfl rfl rfl)) (xa_cons (xv 2) (xa_cons (xv 1) xa_nil))) (x_one (x_call (ok_are_outs T) (hr.mono (by omega)) (fun h => nomatch h) T.t_are_outs.G T.t_are_outs.Kp T.t_are_outs.B (passX (takes_of rfl rfl rfl rfl)) (xa_cons (xv 3) (xa_cons (x_op or_add od_add (xb 1) (XE.b (x_blt call_len cd_len T.m_len rfl (xB_cons (xb 2) xB_nil)))) xa_nil))))))))))
abbrev n_check_net : List Str := ["thing"]
theorem sc_check_net : FnScope n_check_net ["thing"] (defScope s_check_net) := ⟨rfl, rfl, rfl, by decide +kernel, rfl, by decide +kernel, by decide +kernel⟩
def b_check_net : Vl.Env → M Fl := (sIf (mNot (tTru (dCall 1 den_is_net (aCons (dVar 0) aNil)))) (sRaise "NoNet") sNil)
def den_check_net : List SV → M D := denOf 1 (b_check_net)
theorem ok_check_net (T : Tp K mg w) : FnG P w K mg base false 5 T.t_check_net.f T.t_check_net.fd ["thing"] (spG K (ecOf T) .v 1 (den_check_net)) := by
  refine fnG_of (k := 4) (N := n_check_net) (ps := ["thing"]) (body := b_check_net) T.t_check_net.F sc_check_net (.inl rfl) fun cdv A outer s H E hr hg => ?_
  exact (xs_one (xs_if (xt_not (xt_tru (XE.b (x_call (ok_is_net T) (hr.mono (by omega)) (fun h => nomatch h) T.t_is_net.G T.t_is_net.Kp T.t_is_net.B (passX (takes_of rfl rfl rfl rfl)) (xa_cons (xv 0) xa_nil))))) (xs_one (xs_raise "NoNet" rfl (takes_of rfl rfl rfl rfl) T.e_NoNet.F T.e_NoNet.q T.e_NoNet.G T.e_NoNet.Kp (raises_own T.e_NoNet.h1 T.e_NoNet.h2) rfl)) xs_nil))
abbrev n_table_of : List Str := ["net", "n"]
theorem sc_table_of : FnScope n_table_of ["net"] (defScope s_table_of) := ⟨rfl, rfl, rfl, by decide +kernel, rfl, by decide +kernel, by decide +kernel⟩
def b_table_of : Vl.Env → M Fl := (sSeq (sExpr (dCall 1 den_check_net (aCons (dVar 0) aNil))) (sSeq (sExpr (dCall 2 den_check_inputs (aCons (dVar 0) (aCons (dC (.int 6)) aNil)))) (sSeq (sSet 1 (d2 dIxA (bVar 0) (dC (.int 0)))) (sRet (dTup (aCons (dVar 1) (aCons (dB gTuple (aCons (dCall 2 den_answers_at (aCons (dVar 0) (aCons (dCall 1 den_settled_words (aCons (dVar 1) aNil)) aNil))) aNil)) aNil)))))))
def den_table_of : List SV → M D := denOf 2 (b_table_of)
theorem ok_table_of (T : Tp K mg w) : FnG P w K mg base false 6 T.t_table_of.f T.t_table_of.fd ["net"] (spG K (ecOf T) .v 1 (den_table_of)) := by
  refine fnG_of (k := 5) (N := n_table_of) (ps := ["net"]) (body := b_table_of) T.t_table_of.F sc_table_of (.inl rfl) fun cdv A outer s H E hr hg => ?_
  exact (xs_cons (xs_expr (XE.b (x_call (ok_check_net T) (hr.mono (by omega)) (fun h => nomatch h) T.t_check_net.G T.t_check_net.Kp T.t_check_net.B (passX (takes_of rfl rfl rfl rfl)) (xa_cons (xv 0) xa_nil)))) (xs_cons (xs_expr (XE.b (x_call (ok_check_inputs T) (hr.mono (by omega)) (fun h => nomatch h) T.t_check_inputs.G T.t_check_inputs.Kp T.t_check_inputs.B (passX (takes_of rfl rfl rfl rfl)) (xa_cons (xv 0) (xa_cons (x_gInt T.c_MOST_TABLE_INPUTS) xa_nil))))) (xs_cons (xs_set 1 sc_table_of.nd (x_ixA (roomU1 hr) (xb 0) (XE.b x_int))) (xs_one (xs_ret (x_tup (xa_cons (xv 1) (xa_cons (x_bty call_tupF cd_tuple T.m_tuple rfl (xB_cons (XE.b (x_call (ok_answers_at T) (hr.mono (by omega)) (fun h => nomatch h) T.t_answers_at.G T.t_answers_at.Kp T.t_answers_at.B (passX (takes_of rfl rfl rfl rfl)) (xa_cons (xv 0) (xa_cons (x_call (ok_settled_words T) (hr.mono (by omega)) (fun h => nomatch h) T.t_settled_words.G T.t_settled_words.Kp T.t_settled_words.B (passX (takes_of rfl rfl rfl rfl)) (xa_cons (xv 1) xa_nil)) xa_nil)))) xB_nil)) xa_nil))))))))
abbrev n_telling_of : List Str := ["net", "n"]
theorem sc_telling_of : FnScope n_telling_of ["net"] (defScope s_telling_of) := ⟨rfl, rfl, rfl, by decide +kernel, rfl, by decide +kernel, by decide +kernel⟩
def b_telling_of : Vl.Env → M Fl := (sSeq (sExpr (dCall 1 den_check_net (aCons (dVar 0) aNil))) (sSeq (sExpr (dCall 2 den_check_inputs (aCons (dVar 0) (aCons (dC (.int 5)) aNil)))) (sSeq (sSet 1 (d2 dIxA (bVar 0) (dC (.int 0)))) (sRet (dTup (aCons (dVar 1) (aCons (dB gTuple (aCons (dCall 2 den_answers_at (aCons (dVar 0) (aCons (dCall 1 den_all_words (aCons (dVar 1) aNil)) aNil))) aNil)) aNil)))))))
def den_telling_of : List SV → M D := denOf 2 (b_telling_of)
theorem ok_telling_of (T : Tp K mg w) : FnG P w K mg base false 6 T.t_telling_of.f T.t_telling_of.fd ["net"] (spG K (ecOf T) .v 1 (den_telling_of)) := by
  refine fnG_of (k := 5) (N := n_telling_of) (ps := ["net"]) (body := b_telling_of) T.t_telling_of.F sc_telling_of (.inl rfl) fun cdv A outer s H E hr hg => ?_
  exact (xs_cons (xs_expr (XE.b (x_call (ok_check_net T) (hr.mono (by omega)) (fun h => nomatch h) T.t_check_net.G T.t_check_net.Kp T.t_check_net.B (passX (takes_of rfl rfl rfl rfl)) (xa_cons (xv 0) xa_nil)))) (xs_cons (xs_expr (XE.b (x_call (ok_check_inputs T) (hr.mono (by omega)) (fun h => nomatch h) T.t_check_inputs.G T.t_check_inputs.Kp T.t_check_inputs.B (passX (takes_of rfl rfl rfl rfl)) (xa_cons (xv 0) (xa_cons (x_gInt T.c_MOST_TELLING_INPUTS) xa_nil))))) (xs_cons (xs_set 1 sc_telling_of.nd (x_ixA (roomU1 hr) (xb 0) (XE.b x_int))) (xs_one (xs_ret (x_tup (xa_cons (xv 1) (xa_cons (x_bty call_tupF cd_tuple T.m_tuple rfl (xB_cons (XE.b (x_call (ok_answers_at T) (hr.mono (by omega)) (fun h => nomatch h) T.t_answers_at.G T.t_answers_at.Kp T.t_answers_at.B (passX (takes_of rfl rfl rfl rfl)) (xa_cons (xv 0) (xa_cons (x_call (ok_all_words T) (hr.mono (by omega)) (fun h => nomatch h) T.t_all_words.G T.t_all_words.Kp T.t_all_words.B (passX (takes_of rfl rfl rfl rfl)) (xa_cons (xv 1) xa_nil)) xa_nil)))) xB_nil)) xa_nil))))))))
abbrev n__law_wide_right : List Str := ["far", "wide"]
theorem sc__law_wide_right : FnScope n__law_wide_right [] (defScope s__law_wide_right) := ⟨rfl, rfl, rfl, by decide +kernel, rfl, by decide +kernel, by decide +kernel⟩
def b__law_wide_right : Vl.Env → M Fl := (sSeq (sSet 0 (dLst (aCons (dCall 1 den_is_table (aCons (dTup (aCons (dC (.int 2)) (aCons (dTup (aCons (dC (.str "00")) (aCons (dC (.str "0")) (aCons (dC (.str "111")) (aCons (dC (.str "00")) aNil))))) aNil))) aNil)) (aCons (dCall 1 den_is_telling (aCons (dTup (aCons (dC (.int 5)) (aCons (d2 dAdd (d2 dMul (dTup (aCons (dC (.str "0")) aNil)) (dC (.int 242))) (dTup (aCons (dC .none) aNil))) aNil))) aNil)) aNil)))) (sSeq (sIf (tV (d2 dNeA (d2 dCat (bVar 0) (dLst (aCons (dCall 1 den_is_telling (aCons (dTup (aCons (dC (.int 1)) (aCons (dTup (aCons (dC (.str "00")) (aCons (dC (.str "0")) (aCons (dC (.str "111")) aNil)))) aNil))) aNil)) aNil))) (d2 dRep (dLst (aCons (dC (.bool false)) aNil)) (dC (.int 3))))) (sRet (dC (.bool false))) sNil) (sSeq (sSet 1 (dTup (aCons (dC (.int 1)) (aCons (dTup (aCons (dTup (aCons (dC (.str "not")) (aCons (dC (.int 0)) aNil))) aNil)) (aCons (d2 dMul (dTup (aCons (dC (.int 0)) (aCons (dC (.int 1)) aNil))) (dC (.int 16))) aNil))))) (sSeq (sIf (mOr (tV (d2 dNeA (dCall 1 den_table_of (aCons (dVar 1) aNil)) (dTup (aCons (dC (.int 1)) (aCons (dTup (aCons (d2 dMul (dC (.str "01")) (dC (.int 16))) (aCons (d2 dMul (dC (.str "10")) (dC (.int 16))) aNil))) aNil))))) (tV (d2 dNeA (d2 dIxA (d2 dIxA (dCall 1 den_telling_of (aCons (dVar 1) aNil)) (dC (.int 1))) (dC (.int 2))) (d2 dMul (dC (.str "?")) (dC (.int 32)))))) (sRet (dC (.bool false))) sNil) (sRet (dC (.bool true)))))))
def den__law_wide_right : List SV → M D := denOf 2 (b__law_wide_right)
theorem ok__law_wide_right (T : Tp K mg w) : FnG P w K mg base false 7 T.t__law_wide_right.f T.t__law_wide_right.fd [] (spG K (ecOf T) .v 0 (den__law_wide_right)) := by
  refine fnG_of (k := 6) (N := n__law_wide_right) (ps := []) (body := b__law_wide_right) T.t__law_wide_right.F sc__law_wide_right (.inl rfl) fun cdv A outer s H E hr hg => ?_
  exact (xs_cons (xs_set 0 sc__law_wide_right.nd (XE.v (x_lst (xa_cons (x_call (ok_is_table T) (hr.mono (by omega)) (fun h => nomatch h) T.t_is_table.G T.t_is_table.Kp T.t_is_table.B (passX (takes_of rfl rfl rfl rfl)) (xa_cons (x_tup (xa_cons x_int (xa_cons (x_tup (xa_cons x_str (xa_cons x_str (xa_cons x_str (xa_cons x_str xa_nil))))) xa_nil))) xa_nil)) (xa_cons (x_call (ok_is_telling T) (hr.mono (by omega)) (fun h => nomatch h) T.t_is_telling.G T.t_is_telling.Kp T.t_is_telling.B (passX (takes_of rfl rfl rfl rfl)) (xa_cons (x_tup (xa_cons x_int (xa_cons (x_op or_add od_add (XE.b (x_op or_mul od_mul (XE.b (x_tup (xa_cons x_str xa_nil))) (XE.b x_int))) (XE.b (x_tup (xa_cons x_non xa_nil)))) xa_nil))) xa_nil)) xa_nil))))) (xs_cons (xs_if (xt_cmp (or_neA (roomU0 hr)) od_neA (XE.fb (x_op op_cat od_cat (xb 0) (XE.fb (x_lst (xa_cons (x_call (ok_is_telling T) (hr.mono (by omega)) (fun h => nomatch h) T.t_is_telling.G T.t_is_telling.Kp T.t_is_telling.B (passX (takes_of rfl rfl rfl rfl)) (xa_cons (x_tup (xa_cons x_int (xa_cons (x_tup (xa_cons x_str (xa_cons x_str (xa_cons x_str xa_nil)))) xa_nil))) xa_nil)) xa_nil))))) (XE.fb (x_op op_rep od_rep (XE.fb (x_lst (xa_cons x_bl xa_nil))) (XE.b x_int))) rfl) (xs_one (xs_ret x_bl)) xs_nil) (xs_cons (xs_set 1 sc__law_wide_right.nd (x_tup (xa_cons x_int (xa_cons (x_tup (xa_cons (x_tup (xa_cons x_str (xa_cons x_int xa_nil))) xa_nil)) (xa_cons (x_op or_mul od_mul (XE.b (x_tup (xa_cons x_int (xa_cons x_int xa_nil)))) (XE.b x_int)) xa_nil))))) (xs_cons (xs_if (XW.t (xw_or (xt_cmp (or_neA (roomU0 hr)) od_neA (XE.b (x_call (ok_table_of T) (hr.mono (by omega)) (fun h => nomatch h) T.t_table_of.G T.t_table_of.Kp T.t_table_of.B (passX (takes_of rfl rfl rfl rfl)) (xa_cons (xv 1) xa_nil))) (XE.b (x_tup (xa_cons x_int (xa_cons (x_tup (xa_cons (x_op or_mul od_mul (XE.b x_str) (XE.b x_int)) (xa_cons (x_op or_mul od_mul (XE.b x_str) (XE.b x_int)) xa_nil))) xa_nil)))) rfl) (xw_or1 (xt_cmp (or_neA (roomU0 hr)) od_neA (XE.b (x_ixA (roomU1 hr) (XE.b (x_ixA (roomU1 hr) (XE.b (x_call (ok_telling_of T) (hr.mono (by omega)) (fun h => nomatch h) T.t_telling_of.G T.t_telling_of.Kp T.t_telling_of.B (passX (takes_of rfl rfl rfl rfl)) (xa_cons (xv 1) xa_nil))) (XE.b x_int))) (XE.b x_int))) (XE.b (x_op or_mul od_mul (XE.b x_str) (XE.b x_int))) rfl)))) (xs_one (xs_ret x_bl)) xs_nil) (xs_one (xs_ret x_bl))))))
abbrev n_law : List Str := ["script", "pen", "turn", "n", "net", "table", "word", "telling", "things", "again", "thing", "due", "was", "odd", "six", "bits", "told", "five"]
theorem sc_law : FnScope n_law ["script"] (defScope s_law) := ⟨rfl, rfl, rfl, by decide +kernel, rfl, by decide +kernel, by decide +kernel⟩
def b_law (tb : List (Addr × Str)) : Vl.Env → M Fl := (sSeq (sFor (itR1 (aCons (dC (.int 2)) aNil)) (tgName 2) (sSeq (sSet 3 (d2 dAdd (dC (.int 1)) (dPen 1 2 den__law_take (aCons (dC (.int 4)) aNil)))) (sSeq (sSet 4 (dPen 1 4 den__law_any_net (aCons (dVar 3) (aCons (dC (.int 7)) (aCons (d2 dAdd (dC (.int 1)) (dPen 1 2 den__law_take (aCons (dC (.int 3)) aNil))) aNil))))) (sSeq (sSet 5 (dTup (aCons (dVar 3) (aCons (dB gTuple (aCons (dComp (itD (dCall 2 den__law_all (aCons (dVar 3) (aCons (dC (.str "01")) aNil)))) (tgName 6) tsNil (dCall 2 den__law_run (aCons (dVar 4) (aCons (dVar 6) aNil))) [6]) aNil)) aNil)))) (sSeq (sSet 7 (dTup (aCons (dVar 3) (aCons (dB gTuple (aCons (dComp (itD (dCall 2 den__law_all (aCons (dVar 3) (aCons (dC (.str "01?")) aNil)))) (tgName 6) tsNil (dCall 2 den__law_run (aCons (dVar 4) (aCons (dVar 6) aNil))) [6]) aNil)) aNil)))) (sSeq (sIf (tV (d2 dNeA (dB gRepr (aCons (dLst (aCons (dCall 1 den_table_of (aCons (dVar 4) aNil)) (aCons (dCall 1 den_telling_of (aCons (dVar 4) aNil)) aNil))) aNil)) (dB gRepr (aCons (dLst (aCons (dVar 5) (aCons (dVar 7) aNil))) aNil)))) (sRet (dC (.bool false))) sNil) (sSeq (sSet 8 (d2 dCat (d2 dAdd (dCall 1 den__law_odd (aCons (dVar 5) aNil)) (dCall 1 den__law_odd (aCons (dVar 7) aNil))) (dLst (aCons (dVar 5) (aCons (dVar 7) aNil))))) (sSeq (sFor (itR1 (aCons (dC (.int 4)) aNil)) (tgName 9) (sSet 8 (d2 dCat (bVar 8) (dLst (aCons (dPen 1 2 (den__law_bent 8) (aCons (dVar 5) aNil)) (aCons (dPen 1 2 (den__law_bent 8) (aCons (dVar 7) aNil)) aNil)))))) (sFor (itD (dVar 8)) (tgName 10) (sSeq (sPar2 11 12 (aCons (dLst (aCons (dCall 1 den__law_is_table (aCons (dVar 10) aNil)) (aCons (dCall 3 den__law_is_pair (aCons (dVar 10) (aCons (dC (.int 5)) (aCons (dC (.str "01?")) aNil)))) aNil))) (aCons (dB gRepr (aCons (bVar 10) aNil)) aNil))) (sIf (mOr (tV (d2 dNeA (dB gRepr (aCons (dLst (aCons (dCall 1 den_is_table (aCons (dVar 10) aNil)) (aCons (dCall 1 den_is_telling (aCons (dVar 10) aNil)) aNil))) aNil)) (dB gRepr (aCons (bVar 11) aNil)))) (tV (d2 dNeA (dB gRepr (aCons (bVar 10) aNil)) (bVar 12)))) (sRet (dC (.bool false))) sNil))))))))))) (sSeq (sFor (itD (dLst (aCons (dC .none) (aCons (dTup aNil) (aCons (dTup (aCons (dC (.int 1)) (aCons (dTup aNil) (aCons (dTup aNil) aNil)))) (aCons (dC (.str "net")) (aCons (dLst (aCons (dC (.int 1)) (aCons (dTup aNil) (aCons (dTup (aCons (dC (.int 0)) aNil)) aNil)))) (aCons (dTup (aCons (dC (.int 7)) (aCons (dTup aNil) (aCons (dTup aNil) aNil)))) (aCons (dTup (aCons (dC (.int 6)) (aCons (dTup aNil) (aCons (dTup (aCons (dC (.int 9)) aNil)) aNil)))) (aCons (dTup (aCons (dC (.int 32)) (aCons (dTup aNil) (aCons (dTup (aCons (dC (.int 0)) (aCons (dC (.int 40)) aNil))) aNil)))) aNil)))))))))) (tgName 13) (sSeq (sIf (tV (d2 dNeA (dWord tb isaN cw__law_word "none" (dCall 1 den_table_of (aCons (dVar 13) aNil))) (dC (.str "net")))) (sRet (dC (.bool false))) sNil) (sIf (tV (d2 dNeA (dWord tb isaN cw__law_word "none" (dCall 1 den_telling_of (aCons (dVar 13) aNil))) (dC (.str "net")))) (sRet (dC (.bool false))) sNil))) (sSeq (sSet 14 (dPen 1 4 den__law_any_net (aCons (dC (.int 6)) (aCons (dC (.int 5)) (aCons (dC (.int 1)) aNil))))) (sSeq (sIf (tV (d2 dNeA (dCall 1 den_table_of (aCons (dVar 14) aNil)) (dTup (aCons (dC (.int 6)) (aCons (dB gTuple (aCons (dComp (itD (dCall 2 den__law_all (aCons (dC (.int 6)) (aCons (dC (.str "01")) aNil)))) (tgName 6) tsNil (dCall 2 den__law_run (aCons (dVar 14) (aCons (dVar 6) aNil))) [6]) aNil)) aNil))))) (sRet (dC (.bool false))) sNil) (sSeq (sIf (tV (d2 dNeA (dWord tb isaN cw__law_word "none" (dCall 1 den_telling_of (aCons (dVar 14) aNil))) (dC (.str "great")))) (sRet (dC (.bool false))) sNil) (sSeq (sIf (tV (d2 dNeA (dWord tb isaN cw__law_word "none" (dCall 1 den_table_of (aCons (dTup (aCons (dC (.int 7)) (aCons (dTup aNil) (aCons (dTup (aCons (dC (.int 0)) aNil)) aNil)))) aNil))) (dC (.str "great")))) (sRet (dC (.bool false))) sNil) (sSeq (sIf (mNot (tTru (dCall 0 den__law_wide_right aNil))) (sRet (dC (.bool false))) sNil) (sSeq (sSet 15 (dPen 1 2 den__law_any_word (aCons (dC (.int 1)) aNil))) (sSeq (sSet 16 (dLst (aCons (dCall 1 den_is_table (aCons (dTup (aCons (dC (.int 5)) (aCons (d2 dMul (dTup (aCons (dC (.str "0")) aNil)) (dC (.int 32))) aNil))) aNil)) (aCons (dCall 1 den_is_table (aCons (dTup (aCons (dC (.int 6)) (aCons (d2 dMul (dTup (aCons (dC (.str "0")) aNil)) (dC (.int 64))) aNil))) aNil)) (aCons (dCall 1 den_is_table (aCons (dTup (aCons (dC (.int 7)) (aCons (d2 dMul (dTup (aCons (dC (.str "0")) aNil)) (dC (.int 128))) aNil))) aNil)) aNil))))) (sSeq (sSet 16 (d2 dCat (bVar 16) (dLst (aCons (dCall 1 den_is_telling (aCons (dTup (aCons (dC (.int 4)) (aCons (d2 dMul (dTup (aCons (dVar 15) aNil)) (dC (.int 81))) aNil))) aNil)) (aCons (dCall 1 den_is_telling (aCons (dTup (aCons (dC (.int 5)) (aCons (d2 dMul (dTup (aCons (dVar 15) aNil)) (dC (.int 243))) aNil))) aNil)) (aCons (dCall 1 den_is_telling (aCons (dTup (aCons (dC (.int 6)) (aCons (d2 dMul (dTup (aCons (dVar 15) aNil)) (dC (.int 729))) aNil))) aNil)) aNil)))))) (sSeq (sIf (tV (d2 dNeA (bVar 16) (d2 dRep (dLst (aCons (dC (.bool true)) (aCons (dC (.bool true)) (aCons (dC (.bool false)) aNil)))) (dC (.int 2))))) (sRet (dC (.bool false))) sNil) (sSeq (sSet 17 (dPen 1 4 den__law_any_net (aCons (dC (.int 5)) (aCons (dC (.int 3)) (aCons (dC (.int 1)) aNil))))) (sRet (vOr (d2 dGt (dPen 1 2 den__law_take (aCons (dC (.int 4)) aNil)) (dC (.int 0))) (d2 dEqA (d2 dIxA (dCall 1 den_telling_of (aCons (dVar 17) aNil)) (dC (.int 1))) (dB gTuple (aCons (dComp (itD (dCall 2 den__law_all (aCons (dC (.int 5)) (aCons (dC (.str "01?")) aNil)))) (tgName 6) tsNil (dCall 2 den__law_run (aCons (dVar 17) (aCons (dVar 6) aNil))) [6]) aNil)))))))))))))))))
set_option maxHeartbeats 4000000 in
theorem ok_law (T : Tp K mg w) (TBs : ∀ p ∈ csOf T, LamX.TabB base mg p.1 p.2)
    (hrun : ∀ ns : List Int, ns.length ≤ 63 → (∀ z ∈ ns, Builtin.Int.intBits z ≤ 1048576) → ∃ (cs : List Int) (P1 P2 : Pen), den__law_open [.scr ns] ⟨[], 0, 0, tbOf T⟩ = .ok (.list [.list (cs.map PyData.int), .int 0, .int 0]) P1 ∧ b_law (tbOf T) (.scr ns :: .pen :: List.replicate (n_law.length - 2) .un) ⟨cs, 0, 0, tbOf T⟩ = .ok (.rt (.bool true)) P2) :
    FnG P w K mg base true 13 T.t_law.f T.t_law.fd ["script"] (spL K (tbOf T)) := by
  refine law_fn (k := 12) (N := n_law) (body := b_law (tbOf T)) T.t_law.lk T.t_law.hcd sc_law rfl rfl (by decide) (by first | exact .inl rfl | exact .inr (.inl rfl)) (by first | exact .inl rfl | exact .inr rfl) rfl (fun _ => rfl) (by omega) (ok__law_open T) rfl T.t__law_open.G T.t__law_open.Kp T.t__law_open.B (fun A outer s H E hr hg => ?_) hrun
  exact (xs_cons (xs_for (passes_of rfl) rfl (xi_range1 T.m_range (xB_cons (XE.b x_int) xB_nil)) (xg_name 2 sc_law.nd) (xs_cons (xs_set 3 sc_law.nd (x_op or_add od_add (XE.b x_int) (XE.b (x_pen 1 (ok__law_take T) (hr.mono (by omega)) (fun h => nomatch h) T.t__law_take.G T.t__law_take.Kp T.t__law_take.B (passX (takes_of rfl rfl rfl rfl)) (xa_cons x_int xa_nil))))) (xs_cons (xs_set 4 sc_law.nd (x_pen 1 (ok__law_any_net T) (hr.mono (by omega)) (fun h => nomatch h) T.t__law_any_net.G T.t__law_any_net.Kp T.t__law_any_net.B (passX (takes_of rfl rfl rfl rfl)) (xa_cons (xv 3) (xa_cons x_int (xa_cons (x_op or_add od_add (XE.b x_int) (XE.b (x_pen 1 (ok__law_take T) (hr.mono (by omega)) (fun h => nomatch h) T.t__law_take.G T.t__law_take.Kp T.t__law_take.B (passX (takes_of rfl rfl rfl rfl)) (xa_cons x_int xa_nil)))) xa_nil))))) (xs_cons (xs_set 5 sc_law.nd (x_tup (xa_cons (xv 3) (xa_cons (x_bty call_tupF cd_tuple T.m_tuple rfl (xB_cons (XE.fb (x_lc rfl sc_law.nd (xi_any (x_call (ok__law_all T) (hr.mono (by omega)) (fun h => nomatch h) T.t__law_all.G T.t__law_all.Kp T.t__law_all.B (passX (takes_of rfl rfl rfl rfl)) (xa_cons (xv 3) (xa_cons x_str xa_nil)))) (own := [("word", 6)]) (blkOk_by rfl) (fun _ _ _ _ _ => (xg_name 6 sc_law.nd)) (fun _ _ _ _ _ => xts_nil) (fun _ _ _ _ _ => (x_call (ok__law_run T) (hr.mono (by omega)) (fun h => nomatch h) T.t__law_run.G T.t__law_run.Kp T.t__law_run.B passX0 (xa_cons (xv 4) (xa_cons (xv 6) xa_nil)))))) xB_nil)) xa_nil)))) (xs_cons (xs_set 7 sc_law.nd (x_tup (xa_cons (xv 3) (xa_cons (x_bty call_tupF cd_tuple T.m_tuple rfl (xB_cons (XE.fb (x_lc rfl sc_law.nd (xi_any (x_call (ok__law_all T) (hr.mono (by omega)) (fun h => nomatch h) T.t__law_all.G T.t__law_all.Kp T.t__law_all.B (passX (takes_of rfl rfl rfl rfl)) (xa_cons (xv 3) (xa_cons x_str xa_nil)))) (own := [("word", 6)]) (blkOk_by rfl) (fun _ _ _ _ _ => (xg_name 6 sc_law.nd)) (fun _ _ _ _ _ => xts_nil) (fun _ _ _ _ _ => (x_call (ok__law_run T) (hr.mono (by omega)) (fun h => nomatch h) T.t__law_run.G T.t__law_run.Kp T.t__law_run.B passX0 (xa_cons (xv 4) (xa_cons (xv 6) xa_nil)))))) xB_nil)) xa_nil)))) (xs_cons (xs_if (xt_cmp (or_neA (roomU0 hr)) od_neA (XE.b (x_blt (cr_repr hg (roomU hr)) cd_repr T.m_repr rfl (xB_cons (XE.fb (x_lst (xa_cons (x_call (ok_table_of T) (hr.mono (by omega)) (fun h => nomatch h) T.t_table_of.G T.t_table_of.Kp T.t_table_of.B (passX (takes_of rfl rfl rfl rfl)) (xa_cons (xv 4) xa_nil)) (xa_cons (x_call (ok_telling_of T) (hr.mono (by omega)) (fun h => nomatch h) T.t_telling_of.G T.t_telling_of.Kp T.t_telling_of.B (passX (takes_of rfl rfl rfl rfl)) (xa_cons (xv 4) xa_nil)) xa_nil)))) xB_nil))) (XE.b (x_blt (cr_repr hg (roomU hr)) cd_repr T.m_repr rfl (xB_cons (XE.fb (x_lst (xa_cons (xv 5) (xa_cons (xv 7) xa_nil)))) xB_nil))) rfl) (xs_one (xs_ret x_bl)) xs_nil) (xs_cons (xs_set 8 sc_law.nd (XE.v (x_op op_cat od_cat (XE.b (x_op or_add od_add (XE.b (x_call (ok__law_odd T) (hr.mono (by omega)) (fun h => nomatch h) T.t__law_odd.G T.t__law_odd.Kp T.t__law_odd.B (passX (takes_of rfl rfl rfl rfl)) (xa_cons (xv 5) xa_nil))) (XE.b (x_call (ok__law_odd T) (hr.mono (by omega)) (fun h => nomatch h) T.t__law_odd.G T.t__law_odd.Kp T.t__law_odd.B (passX (takes_of rfl rfl rfl rfl)) (xa_cons (xv 7) xa_nil))))) (XE.fb (x_lst (xa_cons (xv 5) (xa_cons (xv 7) xa_nil))))))) (xs_cons (xs_for (passes_of rfl) rfl (xi_range1 T.m_range (xB_cons (XE.b x_int) xB_nil)) (xg_name 9 sc_law.nd) (xs_one (xs_set 8 sc_law.nd (XE.v (x_op op_cat od_cat (xb 8) (XE.fb (x_lst (xa_cons (x_pen 1 (ok__law_bent T 8) (hr.mono (by omega)) (fun h => nomatch h) T.t__law_bent.G T.t__law_bent.Kp T.t__law_bent.B (passX (takes_of rfl rfl rfl rfl)) (xa_cons (xv 5) xa_nil)) (xa_cons (x_pen 1 (ok__law_bent T 8) (hr.mono (by omega)) (fun h => nomatch h) T.t__law_bent.G T.t__law_bent.Kp T.t__law_bent.B (passX (takes_of rfl rfl rfl rfl)) (xa_cons (xv 7) xa_nil)) xa_nil))))))))) (xs_one (xs_for (passes_of rfl) rfl (xi_any (xv 8)) (xg_name 10 sc_law.nd) (xs_cons (xs_par2 11 12 rfl sc_law.nd (xa_cons (XE.v (x_lst (xa_cons (x_call (ok__law_is_table T) (hr.mono (by omega)) (fun h => nomatch h) T.t__law_is_table.G T.t__law_is_table.Kp T.t__law_is_table.B (passX (takes_of rfl rfl rfl rfl)) (xa_cons (xv 10) xa_nil)) (xa_cons (x_call (ok__law_is_pair T) (hr.mono (by omega)) (fun h => nomatch h) T.t__law_is_pair.G T.t__law_is_pair.Kp T.t__law_is_pair.B (passX (takes_of rfl rfl rfl rfl)) (xa_cons (xv 10) (xa_cons x_int (xa_cons x_str xa_nil)))) xa_nil)))) (xa_cons (x_blt (cr_repr hg (roomU hr)) cd_repr T.m_repr rfl (xB_cons (xb 10) xB_nil)) xa_nil)) (by rfl)) (xs_one (xs_if (XW.t (xw_or (xt_cmp (or_neA (roomU0 hr)) od_neA (XE.b (x_blt (cr_repr hg (roomU hr)) cd_repr T.m_repr rfl (xB_cons (XE.fb (x_lst (xa_cons (x_call (ok_is_table T) (hr.mono (by omega)) (fun h => nomatch h) T.t_is_table.G T.t_is_table.Kp T.t_is_table.B (passX (takes_of rfl rfl rfl rfl)) (xa_cons (xv 10) xa_nil)) (xa_cons (x_call (ok_is_telling T) (hr.mono (by omega)) (fun h => nomatch h) T.t_is_telling.G T.t_is_telling.Kp T.t_is_telling.B (passX (takes_of rfl rfl rfl rfl)) (xa_cons (xv 10) xa_nil)) xa_nil)))) xB_nil))) (XE.b (x_blt (cr_repr hg (roomU hr)) cd_repr T.m_repr rfl (xB_cons (xb 11) xB_nil))) rfl) (xw_or1 (xt_cmp (or_neA (roomU0 hr)) od_neA (XE.b (x_blt (cr_repr hg (roomU hr)) cd_repr T.m_repr rfl (xB_cons (xb 10) xB_nil))) (xb 12) rfl)))) (xs_one (xs_ret x_bl)) xs_nil))))))))))))) (xs_cons (xs_for (passes_of rfl) rfl (xi_any (XE.v (x_lst (xa_cons x_non (xa_cons (x_tup xa_nil) (xa_cons (x_tup (xa_cons x_int (xa_cons (x_tup xa_nil) (xa_cons (x_tup xa_nil) xa_nil)))) (xa_cons x_str (xa_cons (XE.v (x_lst (xa_cons x_int (xa_cons (x_tup xa_nil) (xa_cons (x_tup (xa_cons x_int xa_nil)) xa_nil))))) (xa_cons (x_tup (xa_cons x_int (xa_cons (x_tup xa_nil) (xa_cons (x_tup xa_nil) xa_nil)))) (xa_cons (x_tup (xa_cons x_int (xa_cons (x_tup xa_nil) (xa_cons (x_tup (xa_cons x_int xa_nil)) xa_nil)))) (xa_cons (x_tup (xa_cons x_int (xa_cons (x_tup xa_nil) (xa_cons (x_tup (xa_cons x_int (xa_cons x_int xa_nil))) xa_nil)))) xa_nil))))))))))) (xg_name 13 sc_law.nd) (xs_cons (xs_if (xt_cmp (or_neA (roomU0 hr)) od_neA (XE.b (x_wordT (ec := ecOf T) (cw := cw__law_word) (isa := isaN) (k := 6) T.t__law_word.F T.t__law_word.B T.t__law_word.G T.t__law_word.Kp sc__law_word rfl (.inl rfl) rfl (.cons (i := 1) rfl rfl rfl T.e_NoNet.G (by decide) (.cons (i := 1) rfl rfl rfl T.e_TooGreat.G (by decide) (.cons (i := 1) rfl rfl rfl T.e_BitError.G (by decide) .nil))) (isa__law_word T) (TBs _ (mem_law T)) (tbm_law T) (tbu_law T) (hr.mono (by omega)) (fun A outer s H E f c' hr2 => (x_call (ok_table_of T) (hr2.mono (by omega)) (fun h => nomatch h) T.t_table_of.G T.t_table_of.Kp T.t_table_of.B (passX (takes_of rfl rfl rfl rfl)) (xa_cons (xv 13) xa_nil))))) (XE.b x_str) rfl) (xs_one (xs_ret x_bl)) xs_nil) (xs_one (xs_if (xt_cmp (or_neA (roomU0 hr)) od_neA (XE.b (x_wordT (ec := ecOf T) (cw := cw__law_word) (isa := isaN) (k := 6) T.t__law_word.F T.t__law_word.B T.t__law_word.G T.t__law_word.Kp sc__law_word rfl (.inl rfl) rfl (.cons (i := 1) rfl rfl rfl T.e_NoNet.G (by decide) (.cons (i := 1) rfl rfl rfl T.e_TooGreat.G (by decide) (.cons (i := 1) rfl rfl rfl T.e_BitError.G (by decide) .nil))) (isa__law_word T) (TBs _ (mem_law T)) (tbm_law T) (tbu_law T) (hr.mono (by omega)) (fun A outer s H E f c' hr2 => (x_call (ok_telling_of T) (hr2.mono (by omega)) (fun h => nomatch h) T.t_telling_of.G T.t_telling_of.Kp T.t_telling_of.B (passX (takes_of rfl rfl rfl rfl)) (xa_cons (xv 13) xa_nil))))) (XE.b x_str) rfl) (xs_one (xs_ret x_bl)) xs_nil)))) (xs_cons (xs_set 14 sc_law.nd (x_pen 1 (ok__law_any_net T) (hr.mono (by omega)) (fun h => nomatch h) T.t__law_any_net.G T.t__law_any_net.Kp T.t__law_any_net.B (passX (takes_of rfl rfl rfl rfl)) (xa_cons x_int (xa_cons x_int (xa_cons x_int xa_nil))))) (xs_cons (xs_if (xt_cmp (or_neA (roomU0 hr)) od_neA (XE.b (x_call (ok_table_of T) (hr.mono (by omega)) (fun h => nomatch h) T.t_table_of.G T.t_table_of.Kp T.t_table_of.B (passX (takes_of rfl rfl rfl rfl)) (xa_cons (xv 14) xa_nil))) (XE.b (x_tup (xa_cons x_int (xa_cons (x_bty call_tupF cd_tuple T.m_tuple rfl (xB_cons (XE.fb (x_lc rfl sc_law.nd (xi_any (x_call (ok__law_all T) (hr.mono (by omega)) (fun h => nomatch h) T.t__law_all.G T.t__law_all.Kp T.t__law_all.B (passX (takes_of rfl rfl rfl rfl)) (xa_cons x_int (xa_cons x_str xa_nil)))) (own := [("word", 6)]) (blkOk_by rfl) (fun _ _ _ _ _ => (xg_name 6 sc_law.nd)) (fun _ _ _ _ _ => xts_nil) (fun _ _ _ _ _ => (x_call (ok__law_run T) (hr.mono (by omega)) (fun h => nomatch h) T.t__law_run.G T.t__law_run.Kp T.t__law_run.B passX0 (xa_cons (xv 14) (xa_cons (xv 6) xa_nil)))))) xB_nil)) xa_nil)))) rfl) (xs_one (xs_ret x_bl)) xs_nil) (xs_cons (xs_if (xt_cmp (or_neA (roomU0 hr)) od_neA (XE.b (x_wordT (ec := ecOf T) (cw := cw__law_word) (isa := isaN) (k := 6) T.t__law_word.F T.t__law_word.B T.t__law_word.G T.t__law_word.Kp sc__law_word rfl (.inl rfl) rfl (.cons (i := 1) rfl rfl rfl T.e_NoNet.G (by decide) (.cons (i := 1) rfl rfl rfl T.e_TooGreat.G (by decide) (.cons (i := 1) rfl rfl rfl T.e_BitError.G (by decide) .nil))) (isa__law_word T) (TBs _ (mem_law T)) (tbm_law T) (tbu_law T) (hr.mono (by omega)) (fun A outer s H E f c' hr2 => (x_call (ok_telling_of T) (hr2.mono (by omega)) (fun h => nomatch h) T.t_telling_of.G T.t_telling_of.Kp T.t_telling_of.B (passX (takes_of rfl rfl rfl rfl)) (xa_cons (xv 14) xa_nil))))) (XE.b x_str) rfl) (xs_one (xs_ret x_bl)) xs_nil) (xs_cons (xs_if (xt_cmp (or_neA (roomU0 hr)) od_neA (XE.b (x_wordT (ec := ecOf T) (cw := cw__law_word) (isa := isaN) (k := 6) T.t__law_word.F T.t__law_word.B T.t__law_word.G T.t__law_word.Kp sc__law_word rfl (.inl rfl) rfl (.cons (i := 1) rfl rfl rfl T.e_NoNet.G (by decide) (.cons (i := 1) rfl rfl rfl T.e_TooGreat.G (by decide) (.cons (i := 1) rfl rfl rfl T.e_BitError.G (by decide) .nil))) (isa__law_word T) (TBs _ (mem_law T)) (tbm_law T) (tbu_law T) (hr.mono (by omega)) (fun A outer s H E f c' hr2 => (x_call (ok_table_of T) (hr2.mono (by omega)) (fun h => nomatch h) T.t_table_of.G T.t_table_of.Kp T.t_table_of.B (passX (takes_of rfl rfl rfl rfl)) (xa_cons (x_tup (xa_cons x_int (xa_cons (x_tup xa_nil) (xa_cons (x_tup (xa_cons x_int xa_nil)) xa_nil)))) xa_nil))))) (XE.b x_str) rfl) (xs_one (xs_ret x_bl)) xs_nil) (xs_cons (xs_if (xt_not (xt_tru (XE.b (x_call0 (ok__law_wide_right T) (hr.mono (by omega)) (fun h => nomatch h) T.t__law_wide_right.G T.t__law_wide_right.Kp T.t__law_wide_right.B (passX (takes_of rfl rfl rfl rfl)))))) (xs_one (xs_ret x_bl)) xs_nil) (xs_cons (xs_set 15 sc_law.nd (x_pen 1 (ok__law_any_word T) (hr.mono (by omega)) (fun h => nomatch h) T.t__law_any_word.G T.t__law_any_word.Kp T.t__law_any_word.B (passX (takes_of rfl rfl rfl rfl)) (xa_cons x_int xa_nil))) (xs_cons (xs_set 16 sc_law.nd (XE.v (x_lst (xa_cons (x_call (ok_is_table T) (hr.mono (by omega)) (fun h => nomatch h) T.t_is_table.G T.t_is_table.Kp T.t_is_table.B (passX (takes_of rfl rfl rfl rfl)) (xa_cons (x_tup (xa_cons x_int (xa_cons (x_op or_mul od_mul (XE.b (x_tup (xa_cons x_str xa_nil))) (XE.b x_int)) xa_nil))) xa_nil)) (xa_cons (x_call (ok_is_table T) (hr.mono (by omega)) (fun h => nomatch h) T.t_is_table.G T.t_is_table.Kp T.t_is_table.B (passX (takes_of rfl rfl rfl rfl)) (xa_cons (x_tup (xa_cons x_int (xa_cons (x_op or_mul od_mul (XE.b (x_tup (xa_cons x_str xa_nil))) (XE.b x_int)) xa_nil))) xa_nil)) (xa_cons (x_call (ok_is_table T) (hr.mono (by omega)) (fun h => nomatch h) T.t_is_table.G T.t_is_table.Kp T.t_is_table.B (passX (takes_of rfl rfl rfl rfl)) (xa_cons (x_tup (xa_cons x_int (xa_cons (x_op or_mul od_mul (XE.b (x_tup (xa_cons x_str xa_nil))) (XE.b x_int)) xa_nil))) xa_nil)) xa_nil)))))) (xs_cons (xs_set 16 sc_law.nd (XE.v (x_op op_cat od_cat (xb 16) (XE.fb (x_lst (xa_cons (x_call (ok_is_telling T) (hr.mono (by omega)) (fun h => nomatch h) T.t_is_telling.G T.t_is_telling.Kp T.t_is_telling.B (passX (takes_of rfl rfl rfl rfl)) (xa_cons (x_tup (xa_cons x_int (xa_cons (x_op or_mul od_mul (XE.b (x_tup (xa_cons (xv 15) xa_nil))) (XE.b x_int)) xa_nil))) xa_nil)) (xa_cons (x_call (ok_is_telling T) (hr.mono (by omega)) (fun h => nomatch h) T.t_is_telling.G T.t_is_telling.Kp T.t_is_telling.B (passX (takes_of rfl rfl rfl rfl)) (xa_cons (x_tup (xa_cons x_int (xa_cons (x_op or_mul od_mul (XE.b (x_tup (xa_cons (xv 15) xa_nil))) (XE.b x_int)) xa_nil))) xa_nil)) (xa_cons (x_call (ok_is_telling T) (hr.mono (by omega)) (fun h => nomatch h) T.t_is_telling.G T.t_is_telling.Kp T.t_is_telling.B (passX (takes_of rfl rfl rfl rfl)) (xa_cons (x_tup (xa_cons x_int (xa_cons (x_op or_mul od_mul (XE.b (x_tup (xa_cons (xv 15) xa_nil))) (XE.b x_int)) xa_nil))) xa_nil)) xa_nil)))))))) (xs_cons (xs_if (xt_cmp (or_neA (roomU0 hr)) od_neA (xb 16) (XE.fb (x_op op_rep od_rep (XE.fb (x_lst (xa_cons x_bl (xa_cons x_bl (xa_cons x_bl xa_nil))))) (XE.b x_int))) rfl) (xs_one (xs_ret x_bl)) xs_nil) (xs_cons (xs_set 17 sc_law.nd (x_pen 1 (ok__law_any_net T) (hr.mono (by omega)) (fun h => nomatch h) T.t__law_any_net.G T.t__law_any_net.Kp T.t__law_any_net.B (passX (takes_of rfl rfl rfl rfl)) (xa_cons x_int (xa_cons x_int (xa_cons x_int xa_nil))))) (xs_one (xs_ret (x_or (x_cmp or_gt od_gt (XE.b (x_pen 1 (ok__law_take T) (hr.mono (by omega)) (fun h => nomatch h) T.t__law_take.G T.t__law_take.Kp T.t__law_take.B (passX (takes_of rfl rfl rfl rfl)) (xa_cons x_int xa_nil))) (XE.b x_int) rfl) (x_one (x_cmp (or_eqA (roomU0 hr)) od_eqA (XE.b (x_ixA (roomU1 hr) (XE.b (x_call (ok_telling_of T) (hr.mono (by omega)) (fun h => nomatch h) T.t_telling_of.G T.t_telling_of.Kp T.t_telling_of.B (passX (takes_of rfl rfl rfl rfl)) (xa_cons (xv 17) xa_nil))) (XE.b x_int))) (XE.b (x_bty call_tupF cd_tuple T.m_tuple rfl (xB_cons (XE.fb (x_lc rfl sc_law.nd (xi_any (x_call (ok__law_all T) (hr.mono (by omega)) (fun h => nomatch h) T.t__law_all.G T.t__law_all.Kp T.t__law_all.B (passX (takes_of rfl rfl rfl rfl)) (xa_cons x_int (xa_cons x_str xa_nil)))) (own := [("word", 6)]) (blkOk_by rfl) (fun _ _ _ _ _ => (xg_name 6 sc_law.nd)) (fun _ _ _ _ _ => xts_nil) (fun _ _ _ _ _ => (x_call (ok__law_run T) (hr.mono (by omega)) (fun h => nomatch h) T.t__law_run.G T.t__law_run.Kp T.t__law_run.B passX0 (xa_cons (xv 17) (xa_cons (xv 6) xa_nil)))))) xB_nil))) rfl)))))))))))))))))
end Tk
end
section
set_option maxRecDepth 100000
set_option maxHeartbeats 0
namespace Tk
open PySem PySem.Spec PyProof.Rows L2
abbrev hTop (i : Nat) : Stmt := PySem.Challenge.pw_halfbits_k33_tables_and_tellings.main.body.getD i (.Pass ⟨0, 0, 0, 0⟩)
def dd__law_word : He.DefD := ⟨("_law_word", none), "_law_word", "_law_word", defArgs (hTop 52), defBody (hTop 52), defScope (hTop 52), [], []⟩
def dd_is_count : He.DefD := ⟨("is_count", none), "is_count", "is_count", defArgs (hTop 1), defBody (hTop 1), defScope (hTop 1), [], []⟩
def dd_is_word : He.DefD := ⟨("is_word", none), "is_word", "is_word", defArgs (hTop 9), defBody (hTop 9), defScope (hTop 9), [], []⟩
def dd_is_word_of : He.DefD := ⟨("is_word_of", none), "is_word_of", "is_word_of", defArgs (hTop 10), defBody (hTop 10), defScope (hTop 10), [], []⟩
def dd_spelled : He.DefD := ⟨("spelled", none), "spelled", "spelled", defArgs (hTop 11), defBody (hTop 11), defScope (hTop 11), [], []⟩
def dd_all_words : He.DefD := ⟨("all_words", none), "all_words", "all_words", defArgs (hTop 12), defBody (hTop 12), defScope (hTop 12), [], []⟩
def dd_settled_words : He.DefD := ⟨("settled_words", none), "settled_words", "settled_words", defArgs (hTop 13), defBody (hTop 13), defScope (hTop 13), [], []⟩
def dd_is_gate : He.DefD := ⟨("is_gate", none), "is_gate", "is_gate", defArgs (hTop 21), defBody (hTop 21), defScope (hTop 21), [], []⟩
def dd_are_outs : He.DefD := ⟨("are_outs", none), "are_outs", "are_outs", defArgs (hTop 22), defBody (hTop 22), defScope (hTop 22), [], []⟩
def dd_marked : He.DefD := ⟨("marked", none), "marked", "marked", defArgs (hTop 25), defBody (hTop 25), defScope (hTop 25), [], []⟩
def dd_let_through : He.DefD := ⟨("let_through", none), "let_through", "let_through", defArgs (hTop 26), defBody (hTop 26), defScope (hTop 26), [], []⟩
def dd_sign_at : He.DefD := ⟨("sign_at", none), "sign_at", "sign_at", defArgs (hTop 27), defBody (hTop 27), defScope (hTop 27), [], []⟩
def dd_has_rows : He.DefD := ⟨("has_rows", none), "has_rows", "has_rows", defArgs (hTop 33), defBody (hTop 33), defScope (hTop 33), [], []⟩
def dd_are_alike : He.DefD := ⟨("are_alike", none), "are_alike", "are_alike", defArgs (hTop 34), defBody (hTop 34), defScope (hTop 34), [], []⟩
def dd_check_inputs : He.DefD := ⟨("check_inputs", none), "check_inputs", "check_inputs", defArgs (hTop 35), defBody (hTop 35), defScope (hTop 35), [], []⟩
def dd__law_open : He.DefD := ⟨("_law_open", none), "_law_open", "_law_open", defArgs (hTop 39), defBody (hTop 39), defScope (hTop 39), [], []⟩
def dd__law_spread : He.DefD := ⟨("_law_spread", none), "_law_spread", "_law_spread", defArgs (hTop 40), defBody (hTop 40), defScope (hTop 40), [], []⟩
def dd__law_take : He.DefD := ⟨("_law_take", none), "_law_take", "_law_take", defArgs (hTop 41), defBody (hTop 41), defScope (hTop 41), [], []⟩
def dd__law_one_of : He.DefD := ⟨("_law_one_of", none), "_law_one_of", "_law_one_of", defArgs (hTop 42), defBody (hTop 42), defScope (hTop 42), [], []⟩
def dd__law_all : He.DefD := ⟨("_law_all", none), "_law_all", "_law_all", defArgs (hTop 43), defBody (hTop 43), defScope (hTop 43), [], []⟩
def dd__law_settled : He.DefD := ⟨("_law_settled", none), "_law_settled", "_law_settled", defArgs (hTop 44), defBody (hTop 44), defScope (hTop 44), [], []⟩
def dd__law_joined : He.DefD := ⟨("_law_joined", none), "_law_joined", "_law_joined", defArgs (hTop 45), defBody (hTop 45), defScope (hTop 45), [], []⟩
def dd__law_is_within : He.DefD := ⟨("_law_is_within", none), "_law_is_within", "_law_is_within", defArgs (hTop 46), defBody (hTop 46), defScope (hTop 46), [], []⟩
def dd__law_any_word : He.DefD := ⟨("_law_any_word", none), "_law_any_word", "_law_any_word", defArgs (hTop 47), defBody (hTop 47), defScope (hTop 47), [], []⟩
def dd__law_told : He.DefD := ⟨("_law_told", none), "_law_told", "_law_told", defArgs (hTop 48), defBody (hTop 48), defScope (hTop 48), [], []⟩
def dd__law_run : He.DefD := ⟨("_law_run", none), "_law_run", "_law_run", defArgs (hTop 49), defBody (hTop 49), defScope (hTop 49), [], []⟩
def dd__law_any_net : He.DefD := ⟨("_law_any_net", none), "_law_any_net", "_law_any_net", defArgs (hTop 50), defBody (hTop 50), defScope (hTop 50), [], []⟩
def dd__law_bent : He.DefD := ⟨("_law_bent", none), "_law_bent", "_law_bent", defArgs (hTop 51), defBody (hTop 51), defScope (hTop 51), [], []⟩
def dd__law_is_word : He.DefD := ⟨("_law_is_word", none), "_law_is_word", "_law_is_word", defArgs (hTop 53), defBody (hTop 53), defScope (hTop 53), [], []⟩
def dd__law_is_pair : He.DefD := ⟨("_law_is_pair", none), "_law_is_pair", "_law_is_pair", defArgs (hTop 54), defBody (hTop 54), defScope (hTop 54), [], []⟩
def dd__law_is_table : He.DefD := ⟨("_law_is_table", none), "_law_is_table", "_law_is_table", defArgs (hTop 55), defBody (hTop 55), defScope (hTop 55), [], []⟩
def dd__law_odd : He.DefD := ⟨("_law_odd", none), "_law_odd", "_law_odd", defArgs (hTop 56), defBody (hTop 56), defScope (hTop 56), [], []⟩
def dd_are_gates : He.DefD := ⟨("are_gates", none), "are_gates", "are_gates", defArgs (hTop 20), defBody (hTop 20), defScope (hTop 20), [], []⟩
def dd_answers_at : He.DefD := ⟨("answers_at", none), "answers_at", "answers_at", defArgs (hTop 24), defBody (hTop 24), defScope (hTop 24), [], []⟩
def dd_is_table : He.DefD := ⟨("is_table", none), "is_table", "is_table", defArgs (hTop 31), defBody (hTop 31), defScope (hTop 31), [], []⟩
def dd_is_telling : He.DefD := ⟨("is_telling", none), "is_telling", "is_telling", defArgs (hTop 32), defBody (hTop 32), defScope (hTop 32), [], []⟩
def dd_is_net : He.DefD := ⟨("is_net", none), "is_net", "is_net", defArgs (hTop 19), defBody (hTop 19), defScope (hTop 19), [], []⟩
def dd_check_net : He.DefD := ⟨("check_net", none), "check_net", "check_net", defArgs (hTop 23), defBody (hTop 23), defScope (hTop 23), [], []⟩
def dd_table_of : He.DefD := ⟨("table_of", none), "table_of", "table_of", defArgs (hTop 36), defBody (hTop 36), defScope (hTop 36), [], []⟩
def dd_telling_of : He.DefD := ⟨("telling_of", none), "telling_of", "telling_of", defArgs (hTop 37), defBody (hTop 37), defScope (hTop 37), [], []⟩
def dd__law_wide_right : He.DefD := ⟨("_law_wide_right", none), "_law_wide_right", "_law_wide_right", defArgs (hTop 57), defBody (hTop 57), defScope (hTop 57), [], []⟩
def dd_law : He.DefD := ⟨("law", none), "law", "law", defArgs (hTop 58), defBody (hTop 58), defScope (hTop 58), [], []⟩
def hFn : List He.DefD := [dd__law_word, dd_is_count, dd_is_word, dd_is_word_of, dd_spelled, dd_all_words, dd_settled_words, dd_is_gate, dd_are_outs, dd_marked, dd_let_through, dd_sign_at, dd_has_rows, dd_are_alike, dd_check_inputs, dd__law_open, dd__law_spread, dd__law_take, dd__law_one_of, dd__law_all, dd__law_settled, dd__law_joined, dd__law_is_within, dd__law_any_word, dd__law_told, dd__law_run, dd__law_any_net, dd__law_bent, dd__law_is_word, dd__law_is_pair, dd__law_is_table, dd__law_odd, dd_are_gates, dd_answers_at, dd_is_table, dd_is_telling, dd_is_net, dd_check_net, dd_table_of, dd_telling_of, dd__law_wide_right, dd_law]
def hFa0 : List He.Fa := [.glo "_law_word", .glo "is_count", .glo "is_word", .glo "is_word_of", .glo "spelled", .glo "all_words", .glo "settled_words", .glo "is_gate", .glo "are_outs", .glo "marked", .glo "let_through", .glo "sign_at", .glo "has_rows", .glo "are_alike", .glo "check_inputs", .glo "_law_open", .glo "_law_spread", .glo "_law_take", .glo "_law_one_of", .glo "_law_all", .glo "_law_settled", .glo "_law_joined", .glo "_law_is_within", .glo "_law_any_word", .glo "_law_told", .glo "_law_run", .glo "_law_any_net", .glo "_law_bent", .glo "_law_is_word", .glo "_law_is_pair"]
def hFa1 : List He.Fa := [.glo "_law_is_table", .glo "_law_odd", .glo "are_gates", .glo "answers_at", .glo "is_table", .glo "is_telling", .glo "is_net", .glo "check_net", .glo "table_of", .glo "telling_of", .glo "_law_wide_right", .glo "law", .glo "BitError", .exc "BitError", .glo "NoNet", .exc "NoNet", .glo "TooGreat", .exc "TooGreat", .glo "PARTS", .free "all", .free "any", .free "bool", .free "dict", .free "enumerate", .free "int", .free "isinstance", .free "len", .free "list", .free "range", .free "repr"]
def hFa2 : List He.Fa := [.free "sorted", .free "str", .free "sum", .free "tuple", .free "zip", .str "SIGNS" "01?", .int "MOST_BITS" 32, .int "MOST_INPUTS" 32, .int "MOST_GATES" 100000, .int "MOST_OUTS" 32, .int "MOST_TABLE_INPUTS" 6, .int "MOST_TELLING_INPUTS" 5, .exm "BitError" "NoNet" false, .exm "BitError" "TooGreat" false, .exm "BitError" "BitError" true, .exm "NoNet" "NoNet" true, .exm "NoNet" "TooGreat" false, .exm "NoNet" "BitError" true, .exm "TooGreat" "NoNet" false, .exm "TooGreat" "TooGreat" true, .exm "TooGreat" "BitError" true]
def hFa : List He.Fa := hFa0 ++ (hFa1 ++ (hFa2))
def hTs : List He.Tab := [(fun K => He.ga K "PARTS", ["0", "1", "not", "and", "or"])]
def hTf : List He.Defn := [("law", none)]
def hv_PARTS : List (Str × He.Dv) := [("0", .int 1), ("1", .int 1), ("not", .int 2), ("and", .int 3), ("or", .int 3)]
def hEx (K : PySem.W.Frag) : Bool := He.valsB K (He.ga K "PARTS") hv_PARTS
def hLo0 : List Str := ["__name__", "is_count", "BitError", "NoNet", "TooGreat", "SIGNS", "MOST_BITS", "is_word", "is_word_of", "spelled", "all_words", "settled_words", "MOST_INPUTS", "MOST_GATES", "MOST_OUTS", "PARTS", "is_net", "are_gates", "is_gate", "are_outs", "check_net", "answers_at", "marked", "let_through", "sign_at", "MOST_TABLE_INPUTS", "MOST_TELLING_INPUTS", "is_table", "is_telling", "has_rows"]
def hLo1 : List Str := ["are_alike", "check_inputs", "table_of", "telling_of", "_law_open", "_law_spread", "_law_take", "_law_one_of", "_law_all", "_law_settled", "_law_joined", "_law_is_within", "_law_any_word", "_law_told", "_law_run", "_law_any_net", "_law_bent", "_law_word", "_law_is_word", "_law_is_pair", "_law_is_table", "_law_odd", "_law_wide_right"]
def hLo : List Str := hLo0 ++ (hLo1)
abbrev hR : PySem.W.OpenRow := PySem.W.OpenLaw.row PySem.Challenge.rw_halfbits_k33_tables_and_tellings
abbrev hHk : PySem.W.Hook := He.hookX 4 hFa hFn hTs hTf hEx
def hOb (s : PySem.W.SharedT) : He.AlX := He.obsX 4 hFa hFn hTs hTf hEx (HandSHeadRun.getT s)
theorem hOb_eq (s : PySem.W.SharedT) : hOb s = hHk.obs s.abs := He.obsX_eq (HandSHeadRun.getT_eq s)
theorem hRun (w : World) : HandSHeadRun.RunEq hR (PySem.W.view hR.prog [58]) hHk hOb 4360 hLo w := by
  refine PySem.W.byRow2 "special-get-raises" (P := fun w => HandSHeadRun.RunEq hR (PySem.W.view hR.prog [58]) hHk hOb 4360 hLo w) (fun w => ?_) (fun w => ?_) w
  · intro os
    kernel_rfl
  · intro os
    kernel_rfl
end Tk
end
section
set_option maxRecDepth 100000
set_option maxHeartbeats 0
namespace Tk
open PySem PySem.Spec PyProof.Rows L2 Vl
set_option maxHeartbeats 0 in
theorem tp_of {K : PySem.W.Frag} {h : Heap} {mg : Str → Option Value} {w : World} (X : K.In h) (G : h.Ns mainGlobals mg) (c : He.SaysX hFa hFn hTs hTf hEx w h K) :
    ∃ T : Tp K mg w, T.t_law.f = He.ga K "law" ∧ (∀ p ∈ csOf T, ∃ q ∈ hTf, p = He.cT K q) := by
  have d := c.t.d
  have more := c.more
  simp only [hEx, Bool.and_eq_true, decide_eq_true_eq] at more
  have mo0 := more
  have g__law_word := He.glo_ok X G (d.fact 0 (f := .glo "_law_word") rfl)
  have d__law_word := d.def_ 0 (d := dd__law_word) rfl
  obtain ⟨t__law_word, f__law_word⟩ := fnT_of (x := "_law_word") (st := s__law_word) (ps := ["call"]) d__law_word g__law_word (fun _ _ _ _ _ _ us hl => match us, hl with | [_], _ => rfl)
  have g_is_count := He.glo_ok X G (d.fact 1 (f := .glo "is_count") rfl)
  have d_is_count := d.def_ 1 (d := dd_is_count) rfl
  obtain ⟨t_is_count, f_is_count⟩ := fnT_of (x := "is_count") (st := s_is_count) (ps := ["thing", "least", "most"]) d_is_count g_is_count (fun _ _ _ _ _ _ us hl => match us, hl with | [_, _, _], _ => rfl)
  have g_is_word := He.glo_ok X G (d.fact 2 (f := .glo "is_word") rfl)
  have d_is_word := d.def_ 2 (d := dd_is_word) rfl
  obtain ⟨t_is_word, f_is_word⟩ := fnT_of (x := "is_word") (st := s_is_word) (ps := ["thing"]) d_is_word g_is_word (fun _ _ _ _ _ _ us hl => match us, hl with | [_], _ => rfl)
  have g_is_word_of := He.glo_ok X G (d.fact 3 (f := .glo "is_word_of") rfl)
  have d_is_word_of := d.def_ 3 (d := dd_is_word_of) rfl
  obtain ⟨t_is_word_of, f_is_word_of⟩ := fnT_of (x := "is_word_of") (st := s_is_word_of) (ps := ["thing", "bits"]) d_is_word_of g_is_word_of (fun _ _ _ _ _ _ us hl => match us, hl with | [_, _], _ => rfl)
  have g_spelled := He.glo_ok X G (d.fact 4 (f := .glo "spelled") rfl)
  have d_spelled := d.def_ 4 (d := dd_spelled) rfl
  obtain ⟨t_spelled, f_spelled⟩ := fnT_of (x := "spelled") (st := s_spelled) (ps := ["choices"]) d_spelled g_spelled (fun _ _ _ _ _ _ us hl => match us, hl with | [_], _ => rfl)
  have g_all_words := He.glo_ok X G (d.fact 5 (f := .glo "all_words") rfl)
  have d_all_words := d.def_ 5 (d := dd_all_words) rfl
  obtain ⟨t_all_words, f_all_words⟩ := fnT_of (x := "all_words") (st := s_all_words) (ps := ["bits"]) d_all_words g_all_words (fun _ _ _ _ _ _ us hl => match us, hl with | [_], _ => rfl)
  have g_settled_words := He.glo_ok X G (d.fact 6 (f := .glo "settled_words") rfl)
  have d_settled_words := d.def_ 6 (d := dd_settled_words) rfl
  obtain ⟨t_settled_words, f_settled_words⟩ := fnT_of (x := "settled_words") (st := s_settled_words) (ps := ["bits"]) d_settled_words g_settled_words (fun _ _ _ _ _ _ us hl => match us, hl with | [_], _ => rfl)
  have g_is_gate := He.glo_ok X G (d.fact 7 (f := .glo "is_gate") rfl)
  have d_is_gate := d.def_ 7 (d := dd_is_gate) rfl
  obtain ⟨t_is_gate, f_is_gate⟩ := fnT_of (x := "is_gate") (st := s_is_gate) (ps := ["thing", "own"]) d_is_gate g_is_gate (fun _ _ _ _ _ _ us hl => match us, hl with | [_, _], _ => rfl)
  have g_are_outs := He.glo_ok X G (d.fact 8 (f := .glo "are_outs") rfl)
  have d_are_outs := d.def_ 8 (d := dd_are_outs) rfl
  obtain ⟨t_are_outs, f_are_outs⟩ := fnT_of (x := "are_outs") (st := s_are_outs) (ps := ["thing", "many"]) d_are_outs g_are_outs (fun _ _ _ _ _ _ us hl => match us, hl with | [_, _], _ => rfl)
  have g_marked := He.glo_ok X G (d.fact 9 (f := .glo "marked") rfl)
  have d_marked := d.def_ 9 (d := dd_marked) rfl
  obtain ⟨t_marked, f_marked⟩ := fnT_of (x := "marked") (st := s_marked) (ps := ["words", "at", "bit"]) d_marked g_marked (fun _ _ _ _ _ _ us hl => match us, hl with | [_, _, _], _ => rfl)
  have g_let_through := He.glo_ok X G (d.fact 10 (f := .glo "let_through") rfl)
  have d_let_through := d.def_ 10 (d := dd_let_through) rfl
  obtain ⟨t_let_through, f_let_through⟩ := fnT_of (x := "let_through") (st := s_let_through) (ps := ["gate", "stands", "everywhere"]) d_let_through g_let_through (fun _ _ _ _ _ _ us hl => match us, hl with | [_, _, _], _ => rfl)
  have g_sign_at := He.glo_ok X G (d.fact 11 (f := .glo "sign_at") rfl)
  have d_sign_at := d.def_ 11 (d := dd_sign_at) rfl
  obtain ⟨t_sign_at, f_sign_at⟩ := fnT_of (x := "sign_at") (st := s_sign_at) (ps := ["pair", "k"]) d_sign_at g_sign_at (fun _ _ _ _ _ _ us hl => match us, hl with | [_, _], _ => rfl)
  have g_has_rows := He.glo_ok X G (d.fact 12 (f := .glo "has_rows") rfl)
  have d_has_rows := d.def_ 12 (d := dd_has_rows) rfl
  obtain ⟨t_has_rows, f_has_rows⟩ := fnT_of (x := "has_rows") (st := s_has_rows) (ps := ["thing", "most"]) d_has_rows g_has_rows (fun _ _ _ _ _ _ us hl => match us, hl with | [_, _], _ => rfl)
  have g_are_alike := He.glo_ok X G (d.fact 13 (f := .glo "are_alike") rfl)
  have d_are_alike := d.def_ 13 (d := dd_are_alike) rfl
  obtain ⟨t_are_alike, f_are_alike⟩ := fnT_of (x := "are_alike") (st := s_are_alike) (ps := ["rows"]) d_are_alike g_are_alike (fun _ _ _ _ _ _ us hl => match us, hl with | [_], _ => rfl)
  have g_check_inputs := He.glo_ok X G (d.fact 14 (f := .glo "check_inputs") rfl)
  have d_check_inputs := d.def_ 14 (d := dd_check_inputs) rfl
  obtain ⟨t_check_inputs, f_check_inputs⟩ := fnT_of (x := "check_inputs") (st := s_check_inputs) (ps := ["net", "most"]) d_check_inputs g_check_inputs (fun _ _ _ _ _ _ us hl => match us, hl with | [_, _], _ => rfl)
  have g__law_open := He.glo_ok X G (d.fact 15 (f := .glo "_law_open") rfl)
  have d__law_open := d.def_ 15 (d := dd__law_open) rfl
  obtain ⟨t__law_open, f__law_open⟩ := fnT_of (x := "_law_open") (st := s__law_open) (ps := ["script"]) d__law_open g__law_open (fun _ _ _ _ _ _ us hl => match us, hl with | [_], _ => rfl)
  have g__law_spread := He.glo_ok X G (d.fact 16 (f := .glo "_law_spread") rfl)
  have d__law_spread := d.def_ 16 (d := dd__law_spread) rfl
  obtain ⟨t__law_spread, f__law_spread⟩ := fnT_of (x := "_law_spread") (st := s__law_spread) (ps := ["cell", "k"]) d__law_spread g__law_spread (fun _ _ _ _ _ _ us hl => match us, hl with | [_, _], _ => rfl)
  have g__law_take := He.glo_ok X G (d.fact 17 (f := .glo "_law_take") rfl)
  have d__law_take := d.def_ 17 (d := dd__law_take) rfl
  obtain ⟨t__law_take, f__law_take⟩ := fnT_of (x := "_law_take") (st := s__law_take) (ps := ["pen", "many"]) d__law_take g__law_take (fun _ _ _ _ _ _ us hl => match us, hl with | [_, _], _ => rfl)
  have g__law_one_of := He.glo_ok X G (d.fact 18 (f := .glo "_law_one_of") rfl)
  have d__law_one_of := d.def_ 18 (d := dd__law_one_of) rfl
  obtain ⟨t__law_one_of, f__law_one_of⟩ := fnT_of (x := "_law_one_of") (st := s__law_one_of) (ps := ["pen", "some"]) d__law_one_of g__law_one_of (fun _ _ _ _ _ _ us hl => match us, hl with | [_, _], _ => rfl)
  have g__law_all := He.glo_ok X G (d.fact 19 (f := .glo "_law_all") rfl)
  have d__law_all := d.def_ 19 (d := dd__law_all) rfl
  obtain ⟨t__law_all, f__law_all⟩ := fnT_of (x := "_law_all") (st := s__law_all) (ps := ["n", "bits"]) d__law_all g__law_all (fun _ _ _ _ _ _ us hl => match us, hl with | [_, _], _ => rfl)
  have g__law_settled := He.glo_ok X G (d.fact 20 (f := .glo "_law_settled") rfl)
  have d__law_settled := d.def_ 20 (d := dd__law_settled) rfl
  obtain ⟨t__law_settled, f__law_settled⟩ := fnT_of (x := "_law_settled") (st := s__law_settled) (ps := ["word"]) d__law_settled g__law_settled (fun _ _ _ _ _ _ us hl => match us, hl with | [_], _ => rfl)
  have g__law_joined := He.glo_ok X G (d.fact 21 (f := .glo "_law_joined") rfl)
  have d__law_joined := d.def_ 21 (d := dd__law_joined) rfl
  obtain ⟨t__law_joined, f__law_joined⟩ := fnT_of (x := "_law_joined") (st := s__law_joined) (ps := ["words"]) d__law_joined g__law_joined (fun _ _ _ _ _ _ us hl => match us, hl with | [_], _ => rfl)
  have g__law_is_within := He.glo_ok X G (d.fact 22 (f := .glo "_law_is_within") rfl)
  have d__law_is_within := d.def_ 22 (d := dd__law_is_within) rfl
  obtain ⟨t__law_is_within, f__law_is_within⟩ := fnT_of (x := "_law_is_within") (st := s__law_is_within) (ps := ["word", "other"]) d__law_is_within g__law_is_within (fun _ _ _ _ _ _ us hl => match us, hl with | [_, _], _ => rfl)
  have g__law_any_word := He.glo_ok X G (d.fact 23 (f := .glo "_law_any_word") rfl)
  have d__law_any_word := d.def_ 23 (d := dd__law_any_word) rfl
  obtain ⟨t__law_any_word, f__law_any_word⟩ := fnT_of (x := "_law_any_word") (st := s__law_any_word) (ps := ["pen", "n"]) d__law_any_word g__law_any_word (fun _ _ _ _ _ _ us hl => match us, hl with | [_, _], _ => rfl)
  have g__law_told := He.glo_ok X G (d.fact 24 (f := .glo "_law_told") rfl)
  have d__law_told := d.def_ 24 (d := dd__law_told) rfl
  obtain ⟨t__law_told, f__law_told⟩ := fnT_of (x := "_law_told") (st := s__law_told) (ps := ["word", "bits"]) d__law_told g__law_told (fun _ _ _ _ _ _ us hl => match us, hl with | [_, _], _ => rfl)
  have g__law_run := He.glo_ok X G (d.fact 25 (f := .glo "_law_run") rfl)
  have d__law_run := d.def_ 25 (d := dd__law_run) rfl
  obtain ⟨t__law_run, f__law_run⟩ := fnT_of (x := "_law_run") (st := s__law_run) (ps := ["net", "word"]) d__law_run g__law_run (fun _ _ _ _ _ _ us hl => match us, hl with | [_, _], _ => rfl)
  have g__law_any_net := He.glo_ok X G (d.fact 26 (f := .glo "_law_any_net") rfl)
  have d__law_any_net := d.def_ 26 (d := dd__law_any_net) rfl
  obtain ⟨t__law_any_net, f__law_any_net⟩ := fnT_of (x := "_law_any_net") (st := s__law_any_net) (ps := ["pen", "n", "most", "m"]) d__law_any_net g__law_any_net (fun _ _ _ _ _ _ us hl => match us, hl with | [_, _, _, _], _ => rfl)
  have g__law_bent := He.glo_ok X G (d.fact 27 (f := .glo "_law_bent") rfl)
  have d__law_bent := d.def_ 27 (d := dd__law_bent) rfl
  obtain ⟨t__law_bent, f__law_bent⟩ := fnT_of (x := "_law_bent") (st := s__law_bent) (ps := ["pen", "value"]) d__law_bent g__law_bent (fun _ _ _ _ _ _ us hl => match us, hl with | [_, _], _ => rfl)
  have g__law_is_word := He.glo_ok X G (d.fact 28 (f := .glo "_law_is_word") rfl)
  have d__law_is_word := d.def_ 28 (d := dd__law_is_word) rfl
  obtain ⟨t__law_is_word, f__law_is_word⟩ := fnT_of (x := "_law_is_word") (st := s__law_is_word) (ps := ["thing"]) d__law_is_word g__law_is_word (fun _ _ _ _ _ _ us hl => match us, hl with | [_], _ => rfl)
  have g__law_is_pair := He.glo_ok X G (d.fact 29 (f := .glo "_law_is_pair") rfl)
  have d__law_is_pair := d.def_ 29 (d := dd__law_is_pair) rfl
  obtain ⟨t__law_is_pair, f__law_is_pair⟩ := fnT_of (x := "_law_is_pair") (st := s__law_is_pair) (ps := ["thing", "most", "bits"]) d__law_is_pair g__law_is_pair (fun _ _ _ _ _ _ us hl => match us, hl with | [_, _, _], _ => rfl)
  have g__law_is_table := He.glo_ok X G (d.fact 30 (f := .glo "_law_is_table") rfl)
  have d__law_is_table := d.def_ 30 (d := dd__law_is_table) rfl
  obtain ⟨t__law_is_table, f__law_is_table⟩ := fnT_of (x := "_law_is_table") (st := s__law_is_table) (ps := ["thing"]) d__law_is_table g__law_is_table (fun _ _ _ _ _ _ us hl => match us, hl with | [_], _ => rfl)
  have g__law_odd := He.glo_ok X G (d.fact 31 (f := .glo "_law_odd") rfl)
  have d__law_odd := d.def_ 31 (d := dd__law_odd) rfl
  obtain ⟨t__law_odd, f__law_odd⟩ := fnT_of (x := "_law_odd") (st := s__law_odd) (ps := ["pair"]) d__law_odd g__law_odd (fun _ _ _ _ _ _ us hl => match us, hl with | [_], _ => rfl)
  have g_are_gates := He.glo_ok X G (d.fact 32 (f := .glo "are_gates") rfl)
  have d_are_gates := d.def_ 32 (d := dd_are_gates) rfl
  obtain ⟨t_are_gates, f_are_gates⟩ := fnT_of (x := "are_gates") (st := s_are_gates) (ps := ["thing", "n"]) d_are_gates g_are_gates (fun _ _ _ _ _ _ us hl => match us, hl with | [_, _], _ => rfl)
  have g_answers_at := He.glo_ok X G (d.fact 33 (f := .glo "answers_at") rfl)
  have d_answers_at := d.def_ 33 (d := dd_answers_at) rfl
  obtain ⟨t_answers_at, f_answers_at⟩ := fnT_of (x := "answers_at") (st := s_answers_at) (ps := ["net", "words"]) d_answers_at g_answers_at (fun _ _ _ _ _ _ us hl => match us, hl with | [_, _], _ => rfl)
  have g_is_table := He.glo_ok X G (d.fact 34 (f := .glo "is_table") rfl)
  have d_is_table := d.def_ 34 (d := dd_is_table) rfl
  obtain ⟨t_is_table, f_is_table⟩ := fnT_of (x := "is_table") (st := s_is_table) (ps := ["thing"]) d_is_table g_is_table (fun _ _ _ _ _ _ us hl => match us, hl with | [_], _ => rfl)
  have g_is_telling := He.glo_ok X G (d.fact 35 (f := .glo "is_telling") rfl)
  have d_is_telling := d.def_ 35 (d := dd_is_telling) rfl
  obtain ⟨t_is_telling, f_is_telling⟩ := fnT_of (x := "is_telling") (st := s_is_telling) (ps := ["thing"]) d_is_telling g_is_telling (fun _ _ _ _ _ _ us hl => match us, hl with | [_], _ => rfl)
  have g_is_net := He.glo_ok X G (d.fact 36 (f := .glo "is_net") rfl)
  have d_is_net := d.def_ 36 (d := dd_is_net) rfl
  obtain ⟨t_is_net, f_is_net⟩ := fnT_of (x := "is_net") (st := s_is_net) (ps := ["thing"]) d_is_net g_is_net (fun _ _ _ _ _ _ us hl => match us, hl with | [_], _ => rfl)
  have g_check_net := He.glo_ok X G (d.fact 37 (f := .glo "check_net") rfl)
  have d_check_net := d.def_ 37 (d := dd_check_net) rfl
  obtain ⟨t_check_net, f_check_net⟩ := fnT_of (x := "check_net") (st := s_check_net) (ps := ["thing"]) d_check_net g_check_net (fun _ _ _ _ _ _ us hl => match us, hl with | [_], _ => rfl)
  have g_table_of := He.glo_ok X G (d.fact 38 (f := .glo "table_of") rfl)
  have d_table_of := d.def_ 38 (d := dd_table_of) rfl
  obtain ⟨t_table_of, f_table_of⟩ := fnT_of (x := "table_of") (st := s_table_of) (ps := ["net"]) d_table_of g_table_of (fun _ _ _ _ _ _ us hl => match us, hl with | [_], _ => rfl)
  have g_telling_of := He.glo_ok X G (d.fact 39 (f := .glo "telling_of") rfl)
  have d_telling_of := d.def_ 39 (d := dd_telling_of) rfl
  obtain ⟨t_telling_of, f_telling_of⟩ := fnT_of (x := "telling_of") (st := s_telling_of) (ps := ["net"]) d_telling_of g_telling_of (fun _ _ _ _ _ _ us hl => match us, hl with | [_], _ => rfl)
  have g__law_wide_right := He.glo_ok X G (d.fact 40 (f := .glo "_law_wide_right") rfl)
  have d__law_wide_right := d.def_ 40 (d := dd__law_wide_right) rfl
  obtain ⟨t__law_wide_right, f__law_wide_right⟩ := fnT_of (x := "_law_wide_right") (st := s__law_wide_right) (ps := []) d__law_wide_right g__law_wide_right (fun _ _ _ _ _ _ us hl => match us, hl with | [], _ => rfl)
  have g_law := He.glo_ok X G (d.fact 41 (f := .glo "law") rfl)
  have d_law := d.def_ 41 (d := dd_law) rfl
  obtain ⟨t_law, f_law, e_law⟩ := lamT_of (x := "law") (st := s_law) (ps := ["script"]) d_law g_law (c.out _ (by simp [hTf])) (fun _ _ _ _ _ _ us hl => match us, hl with | [_], _ => rfl)
  obtain ⟨e_BitError, c_BitError⟩ := exT_of (x := "BitError") (He.glo_ok X G (d.fact 42 (f := .glo "BitError") rfl)) (d.fact 43 (f := .exc "BitError") rfl)
  obtain ⟨e_NoNet, c_NoNet⟩ := exT_of (x := "NoNet") (He.glo_ok X G (d.fact 44 (f := .glo "NoNet") rfl)) (d.fact 45 (f := .exc "NoNet") rfl)
  obtain ⟨e_TooGreat, c_TooGreat⟩ := exT_of (x := "TooGreat") (He.glo_ok X G (d.fact 46 (f := .glo "TooGreat") rfl)) (d.fact 47 (f := .exc "TooGreat") rfl)
  let T : Tp K mg w := {
    t__law_word := t__law_word,
    t_is_count := t_is_count,
    t_is_word := t_is_word,
    t_is_word_of := t_is_word_of,
    t_spelled := t_spelled,
    t_all_words := t_all_words,
    t_settled_words := t_settled_words,
    t_is_gate := t_is_gate,
    t_are_outs := t_are_outs,
    t_marked := t_marked,
    t_let_through := t_let_through,
    t_sign_at := t_sign_at,
    t_has_rows := t_has_rows,
    t_are_alike := t_are_alike,
    t_check_inputs := t_check_inputs,
    t__law_open := t__law_open,
    t__law_spread := t__law_spread,
    t__law_take := t__law_take,
    t__law_one_of := t__law_one_of,
    t__law_all := t__law_all,
    t__law_settled := t__law_settled,
    t__law_joined := t__law_joined,
    t__law_is_within := t__law_is_within,
    t__law_any_word := t__law_any_word,
    t__law_told := t__law_told,
    t__law_run := t__law_run,
    t__law_any_net := t__law_any_net,
    t__law_bent := t__law_bent,
    t__law_is_word := t__law_is_word,
    t__law_is_pair := t__law_is_pair,
    t__law_is_table := t__law_is_table,
    t__law_odd := t__law_odd,
    t_are_gates := t_are_gates,
    t_answers_at := t_answers_at,
    t_is_table := t_is_table,
    t_is_telling := t_is_telling,
    t_is_net := t_is_net,
    t_check_net := t_check_net,
    t_table_of := t_table_of,
    t_telling_of := t_telling_of,
    t__law_wide_right := t__law_wide_right,
    t_law := t_law,
    m_all := He.free_ok X G (d.fact 49 (f := .free "all") rfl),
    m_any := He.free_ok X G (d.fact 50 (f := .free "any") rfl),
    m_bool := He.free_ok X G (d.fact 51 (f := .free "bool") rfl),
    m_dict := He.free_ok X G (d.fact 52 (f := .free "dict") rfl),
    m_enumerate := He.free_ok X G (d.fact 53 (f := .free "enumerate") rfl),
    m_int := He.free_ok X G (d.fact 54 (f := .free "int") rfl),
    m_isinstance := He.free_ok X G (d.fact 55 (f := .free "isinstance") rfl),
    m_len := He.free_ok X G (d.fact 56 (f := .free "len") rfl),
    m_list := He.free_ok X G (d.fact 57 (f := .free "list") rfl),
    m_range := He.free_ok X G (d.fact 58 (f := .free "range") rfl),
    m_repr := He.free_ok X G (d.fact 59 (f := .free "repr") rfl),
    m_sorted := He.free_ok X G (d.fact 60 (f := .free "sorted") rfl),
    m_str := He.free_ok X G (d.fact 61 (f := .free "str") rfl),
    m_sum := He.free_ok X G (d.fact 62 (f := .free "sum") rfl),
    m_tuple := He.free_ok X G (d.fact 63 (f := .free "tuple") rfl),
    m_zip := He.free_ok X G (d.fact 64 (f := .free "zip") rfl),
    c_SIGNS := He.str_ok X G (d.fact 65 (f := .str "SIGNS" "01?") rfl),
    c_MOST_BITS := He.int_ok X G (d.fact 66 (f := .int "MOST_BITS" 32) rfl),
    c_MOST_INPUTS := He.int_ok X G (d.fact 67 (f := .int "MOST_INPUTS" 32) rfl),
    c_MOST_GATES := He.int_ok X G (d.fact 68 (f := .int "MOST_GATES" 100000) rfl),
    c_MOST_OUTS := He.int_ok X G (d.fact 69 (f := .int "MOST_OUTS" 32) rfl),
    c_MOST_TABLE_INPUTS := He.int_ok X G (d.fact 70 (f := .int "MOST_TABLE_INPUTS" 6) rfl),
    c_MOST_TELLING_INPUTS := He.int_ok X G (d.fact 71 (f := .int "MOST_TELLING_INPUTS" 5) rfl),
    e_BitError := e_BitError,
    e_NoNet := e_NoNet,
    e_TooGreat := e_TooGreat,
    x_BitError_NoNet := by simp only [c_BitError, c_NoNet]; exact He.exm_ok (d.fact 72 (f := .exm "BitError" "NoNet" false) rfl),
    x_BitError_TooGreat := by simp only [c_BitError, c_TooGreat]; exact He.exm_ok (d.fact 73 (f := .exm "BitError" "TooGreat" false) rfl),
    x_BitError_BitError := by simp only [c_BitError, c_BitError]; exact He.exm_ok (d.fact 74 (f := .exm "BitError" "BitError" true) rfl),
    x_NoNet_NoNet := by simp only [c_NoNet, c_NoNet]; exact He.exm_ok (d.fact 75 (f := .exm "NoNet" "NoNet" true) rfl),
    x_NoNet_TooGreat := by simp only [c_NoNet, c_TooGreat]; exact He.exm_ok (d.fact 76 (f := .exm "NoNet" "TooGreat" false) rfl),
    x_NoNet_BitError := by simp only [c_NoNet, c_BitError]; exact He.exm_ok (d.fact 77 (f := .exm "NoNet" "BitError" true) rfl),
    x_TooGreat_NoNet := by simp only [c_TooGreat, c_NoNet]; exact He.exm_ok (d.fact 78 (f := .exm "TooGreat" "NoNet" false) rfl),
    x_TooGreat_TooGreat := by simp only [c_TooGreat, c_TooGreat]; exact He.exm_ok (d.fact 79 (f := .exm "TooGreat" "TooGreat" true) rfl),
    x_TooGreat_BitError := by simp only [c_TooGreat, c_BitError]; exact He.exm_ok (d.fact 80 (f := .exm "TooGreat" "BitError" true) rfl),
    a_PARTS := He.ga K "PARTS",
    k_PARTS := tabIs_of (kvs := hv_PARTS) (tabK c.t 0 rfl) mo0 rfl,
    g_PARTS := He.glo_ok X G (d.fact 48 (f := .glo "PARTS") rfl) }
  refine ⟨T, f_law, fun p hp => ?_⟩
  simp only [csOf, List.mem_cons, List.not_mem_nil, or_false] at hp
  rcases hp with rfl
  · exact ⟨("law", none), by simp [hTf], e_law⟩
end Tk
open PySem PySem.W PySem.Calls PyProof.Rows
set_option maxHeartbeats 0 in
theorem Tk.holds (math : ∀ (tb : List (Addr × PySem.Str)) (ns : List Int), ns.length ≤ 63 → (∀ z ∈ ns, Builtin.Int.intBits z ≤ 1048576) → ∃ (cs : List Int) (P1 P2 : Vl.Pen), Tk.den__law_open [.scr ns] ⟨[], 0, 0, tb⟩ = .ok (.list [.list (cs.map PyData.int), .int 0, .int 0]) P1 ∧ Tk.b_law tb (.scr ns :: .pen :: List.replicate (Tk.n_law.length - 2) .un) ⟨cs, 0, 0, tb⟩ = .ok (.rt (.bool true)) P2) : PySem.Challenge.rw_halfbits_k33_tables_and_tellings.Holds := by
  w_on; o_law
  refine HandSHeadRun.head_any (r := OpenLaw.row PySem.Challenge.rw_halfbits_k33_tables_and_tellings) (q := view (OpenLaw.row PySem.Challenge.rw_halfbits_k33_tables_and_tellings).prog [58]) (H := Tk.hHk) (ob := Tk.hOb) (M := 4360) (loose := Tk.hLo) (d := HandSHeadRun.topDef (OpenLaw.row PySem.Challenge.rw_halfbits_k33_tables_and_tellings).prog 58) (kwd := []) Tk.hOb_eq
    (by kernel_rfl) (fun s => by kernel_rfl) Tk.hRun (by kernel_rfl) (by kernel_rfl) (by kernel_rfl) (by rfl) (by first | assumption | decide +kernel) (by decide +kernel) ⟨rfl, rfl, rfl, rfl, rfl, by decide +kernel⟩ ?hw ?hc
  case hw => w_witness2
  case hc =>
    refine Vl.walk_ofG (l := PySem.Challenge.rw_halfbits_k33_tables_and_tellings) (k := 13) (x := "script") rfl (by kernel_rfl) ⟨rfl, by decide, by decide⟩ ?F
    intro w mg fa h Y G hmg0
    obtain ⟨K, KX, c⟩ := Y
    have hmg : (mg ("law" : PySem.Str) = some (.ref fa)) := by
      have e : (HandSHeadRun.topDef (OpenLaw.row PySem.Challenge.rw_halfbits_k33_tables_and_tellings).prog 58).name = ("law" : PySem.Str) := by kernel_rfl
      rw [← e]
      exact hmg0
    obtain ⟨T, hf, hcs⟩ := Tk.tp_of KX G c
    have hfa : fa = T.t_law.f := by
      have z := hmg.symm.trans T.t_law.G
      cases z
      rfl
    refine ⟨K, KX, T.t_law.fd, Tk.csOf T, Tk.tbOf T, fun p hp => ?_, fun p hp => ?_, fun p hp => ?_, Tk.htb_of T, fun s u => .of_eq rfl, fun base _ _ TBs => ?_⟩
    · obtain ⟨q, hq, rfl⟩ := hcs p hp
      exact c.empty q hq
    · obtain ⟨q, hq, rfl⟩ := hcs p hp
      exact c.out q hq
    · obtain ⟨q, hq, rfl⟩ := hcs p hp
      exact PySem.W.codeHd_of_K KX (c.hd q hq)
    · rw [hfa]
      exact Tk.ok_law T TBs (math (Tk.tbOf T))
end
section
set_option autoImplicit false
set_option maxRecDepth 100000
/-! M0: how denotations are computed: steps, comprehensions, loops. -/
namespace Vl
open PySem L2

theorem guardD_of {c : Bool} {d : D} (h : c = true) : guardD c d = some d := by rw [h]; rfl
theorem bnd_ok {α β : Type} {m : M α} {f : α → M β} {P P1 : Pen} {a : α} (h : m P = .ok a P1) : bnd m f P = f a P1 := by
  unfold bnd; rw [h]
theorem bnd_ex {α β : Type} {m : M α} {f : α → M β} {P P1 : Pen} {c : Str} (h : m P = .ex c P1) : bnd m f P = .ex c P1 := by
  unfold bnd; rw [h]
/-- a comprehension over what is walked: each item kept or not -/
theorem compD_map {tg : D → Env → Option Env} {ts : Env → M Bool} {elt : Env → M D} {env : Env} {P : Pen} (g : D → Option D) : ∀ (ds : List D) (n : Nat), n + ds.length ≤ 16777216 →
    (∀ d ∈ ds, ∃ e1, tg d env = some e1 ∧ ((g d = none ∧ ts e1 P = .ok false P) ∨ ∃ y, g d = some y ∧ ts e1 P = .ok true P ∧ elt e1 P = .ok y P)) → compD tg ts elt ds n env P = .ok (ds.filterMap g) P
  | [], _, _, _ => rfl
  | d :: ds, n, hn, h => by
    obtain ⟨e1, h1, h2⟩ := h d List.mem_cons_self
    have ih := fun m hm => compD_map (env := env) (P := P) g ds m hm fun d' hd' => h d' (List.mem_cons_of_mem _ hd')
    rw [List.length_cons] at hn
    unfold compD
    rw [h1]
    rcases h2 with ⟨h2, h3⟩ | ⟨y, h2, h3, h4⟩
    · have e : noEx (ts e1) P = .ok false P := by unfold noEx; rw [h3]
      simp only [bnd_ok e, List.filterMap_cons, h2]
      exact ih n (by omega)
    · have e : noEx (ts e1) P = .ok true P := by unfold noEx; rw [h3]
      have e2 : noEx (elt e1) P = .ok y P := by unfold noEx; rw [h4]
      have hlt : n < 16777216 := by omega
      simp only [bnd_ok e, List.filterMap_cons, h2, if_true, bnd_ok e2, if_pos hlt, bnd_ok (ih (n + 1) (by omega))]
      rfl
theorem dComp_filter {it : Env → M (List D)} {tg : D → Env → Option Env} {ts : Env → M Bool} {elt : Env → M D} {vs : List Nat} {env : Env} {P : Pen} {ds : List D} (g : D → Option D) (hi : it env P = .ok ds P) (hn : ds.length ≤ 16777216)
    (h : ∀ d ∈ ds, ∃ e1, tg d (wipeE env vs) = some e1 ∧ ((g d = none ∧ ts e1 P = .ok false P) ∨ ∃ y, g d = some y ∧ ts e1 P = .ok true P ∧ elt e1 P = .ok y P)) :
    dComp it tg ts elt vs env P = .ok (.list (ds.filterMap g)) P := by
  unfold dComp
  rw [bnd_ok hi, bnd_ok (compD_map g ds 0 (by omega) h)]
  rfl
theorem dComp_map {it : Env → M (List D)} {tg : D → Env → Option Env} {elt : Env → M D} {vs : List Nat} {env : Env} {P : Pen} {ds : List D} (f : D → D) (hi : it env P = .ok ds P) (hn : ds.length ≤ 16777216)
    (h : ∀ d ∈ ds, ∃ e1, tg d (wipeE env vs) = some e1 ∧ elt e1 P = .ok (f d) P) : dComp it tg tsNil elt vs env P = .ok (.list (ds.map f)) P := by
  rw [dComp_filter (fun d => some (f d)) hi hn fun d hd => ?_]
  · rw [List.filterMap_eq_map']
  · obtain ⟨e1, h1, h2⟩ := h d hd
    exact ⟨e1, h1, .inr ⟨_, rfl, rfl, h2⟩⟩
/-- a comprehension whose elements draw from the pen -/
theorem compD_draw {tg : D → Env → Option Env} {elt : Env → M D} {env : Env} (I : Pen → Prop) (R : D → Prop) : ∀ (ds : List D) (n : Nat) (P : Pen), n + ds.length ≤ 16777216 → I P →
    (∀ d ∈ ds, ∀ P, I P → ∃ e1 y P', tg d env = some e1 ∧ elt e1 P = .ok y P' ∧ I P' ∧ R y) → ∃ ys P', compD tg tsNil elt ds n env P = .ok ys P' ∧ I P' ∧ ys.length = ds.length ∧ ∀ y ∈ ys, R y
  | [], _, P, _, hI, _ => ⟨[], P, rfl, hI, rfl, fun y hy => nomatch hy⟩
  | d :: ds, n, P, hn, hI, h => by
    rw [List.length_cons] at hn
    obtain ⟨e1, y, P1, h1, h2, h3, h4⟩ := h d List.mem_cons_self P hI
    obtain ⟨ys, P2, g1, g2, g3, g4⟩ := compD_draw I R ds (n + 1) P1 (by omega) h3 fun d' hd' => h d' (List.mem_cons_of_mem _ hd')
    refine ⟨y :: ys, P2, ?_, g2, by rw [List.length_cons, List.length_cons, g3], fun z hz => ?_⟩
    · unfold compD
      rw [h1]
      have e : noEx (tsNil e1) P = .ok true P := rfl
      have e2 : noEx (elt e1) P = .ok y P1 := by unfold noEx; rw [h2]
      have hlt : n < 16777216 := by omega
      simp only [bnd_ok e, if_true, bnd_ok e2, if_pos hlt, bnd_ok g1]
      rfl
    · rcases List.mem_cons.mp hz with rfl | hz
      · exact h4
      · exact g4 z hz
theorem dComp_draw {it : Env → M (List D)} {tg : D → Env → Option Env} {elt : Env → M D} {vs : List Nat} {env : Env} {P P1 : Pen} {ds : List D} (I : Pen → Prop) (R : D → Prop) (hi : it env P = .ok ds P1) (hn : ds.length ≤ 16777216) (hI : I P1)
    (h : ∀ d ∈ ds, ∀ P, I P → ∃ e1 y P', tg d (wipeE env vs) = some e1 ∧ elt e1 P = .ok y P' ∧ I P' ∧ R y) : ∃ ys P', dComp it tg tsNil elt vs env P = .ok (.list ys) P' ∧ I P' ∧ ys.length = ds.length ∧ ∀ y ∈ ys, R y := by
  obtain ⟨ys, P2, g1, g2⟩ := compD_draw (env := wipeE env vs) I R ds 0 P1 (by omega) hI h
  refine ⟨ys, P2, ?_, g2⟩
  unfold dComp
  rw [bnd_ok hi, bnd_ok g1]
  rfl
/-- a loop: I is kept while items are left; Q at its end -/
theorem loop_inv {tg : D → Env → Option Env} {body : Env → M Fl} (I : List D → Env → Pen → Prop) (Q : Fl → Pen → Prop)
    (step : ∀ d ds env P, I (d :: ds) env P → ∃ e1, tg d env = some e1 ∧ ((∃ e P', (body e1 P = .ok (.nx e) P' ∨ body e1 P = .ok (.ct e) P') ∧ I ds e P') ∨ (∃ e P', body e1 P = .ok (.bk e) P' ∧ Q (.nx e) P') ∨ ∃ v P', body e1 P = .ok (.rt v) P' ∧ Q (.rt v) P'))
    (done : ∀ env P, I [] env P → Q (.nx env) P) : ∀ (ds : List D) (env : Env) (P : Pen), I ds env P → ∃ o P', loopD tg body ds env P = .ok o P' ∧ Q o P'
  | [], env, P, h => ⟨_, P, rfl, done env P h⟩
  | d :: ds, env, P, h => by
    obtain ⟨e1, h1, h2⟩ := step d ds env P h
    unfold loopD
    rw [h1]
    rcases h2 with ⟨e, P', h2, h3⟩ | ⟨e, P', h2, h3⟩ | ⟨v, P', h2, h3⟩
    · obtain ⟨o, P2, g1, g2⟩ := loop_inv I Q step done ds e P' h3
      refine ⟨o, P2, ?_, g2⟩
      rcases h2 with h2 | h2
      · simp only [bnd_ok h2]; exact g1
      · simp only [bnd_ok h2]; exact g1
    · exact ⟨_, P', by simp only [bnd_ok h2]; rfl, h3⟩
    · exact ⟨_, P', by simp only [bnd_ok h2]; rfl, h3⟩

/-! ### forward rules -/
section
variable {α β : Type} {env e e1 : Env} {P P1 P2 P3 : Pen} {f f1 f2 f3 : Env → M D} {c c2 : Env → M Bool} {d x y z : D} {ds : List D} {g : Env → M (List D)} {i j n : Nat} {k : Int} {b : Bool}
theorem bVar_v (h : env[i]? = some (.v d)) : bVar i env P = .ok d P := by unfold bVar; rw [h]; rfl
theorem bVar_o (h : env[i]? = some (.own ds)) : bVar i env P = .ok (.list ds) P := by unfold bVar; rw [h]; rfl
theorem dVar_v (h : env[i]? = some (.v d)) : dVar i env P = .ok d P := by unfold dVar; rw [h]; rfl
theorem dC_ok : dC d env P = .ok d P := rfl
theorem aNil_ok : aNil env P = .ok [] P := rfl
theorem aCons_ok (h : f env P = .ok d P1) (h2 : g env P1 = .ok ds P2) : aCons f g env P = .ok (d :: ds) P2 := by unfold aCons; rw [bnd_ok h, bnd_ok h2]; rfl
theorem dTup_ok (h : g env P = .ok ds P1) (hl : ds.length ≤ 16777216) : dTup g env P = .ok (.tuple ds) P1 := by unfold dTup; rw [bnd_ok h, if_pos hl]; rfl
theorem dLst_ok (h : g env P = .ok ds P1) (hl : ds.length ≤ 16777216) : dLst g env P = .ok (.list ds) P1 := by unfold dLst; rw [bnd_ok h, if_pos hl]; rfl
theorem d2_ok {op : D → D → Option D} (h : f1 env P = .ok x P1) (h2 : f2 env P1 = .ok y P2) (h3 : op x y = some d) : d2 op f1 f2 env P = .ok d P2 := by unfold d2; rw [bnd_ok h, bnd_ok h2, h3]; rfl
theorem d1_ok {op : D → Option D} (h : f env P = .ok x P1) (h3 : op x = some d) : d1 op f env P = .ok d P1 := by unfold d1; rw [bnd_ok h, h3]; rfl
theorem tV_ok (h : f env P = .ok (.bool b) P1) : tV f env P = .ok b P1 := by unfold tV; rw [bnd_ok h]; rfl
theorem tTru_ok (h : f env P = .ok d P1) (h2 : dTru d = some b) : tTru f env P = .ok b P1 := by unfold tTru; rw [bnd_ok h, h2]; rfl
theorem mAnd_t (h : c env P = .ok true P1) (h2 : c2 env P1 = .ok b P2) : mAnd c c2 env P = .ok b P2 := by unfold mAnd; rw [bnd_ok h]; exact h2
theorem mAnd_f (h : c env P = .ok false P1) : mAnd c c2 env P = .ok false P1 := by unfold mAnd; rw [bnd_ok h]; rfl
theorem mOr_f (h : c env P = .ok false P1) (h2 : c2 env P1 = .ok b P2) : mOr c c2 env P = .ok b P2 := by unfold mOr; rw [bnd_ok h]; exact h2
theorem mOr_t (h : c env P = .ok true P1) : mOr c c2 env P = .ok true P1 := by unfold mOr; rw [bnd_ok h]; rfl
theorem mNot_ok (h : c env P = .ok b P1) : mNot c env P = .ok (!b) P1 := by unfold mNot; rw [bnd_ok h]; rfl
theorem mNot_t (h : c env P = .ok false P1) : mNot c env P = .ok true P1 := mNot_ok h
theorem mNot_f (h : c env P = .ok true P1) : mNot c env P = .ok false P1 := mNot_ok h
theorem vAnd_t (h : f1 env P = .ok (.bool true) P1) (h2 : f2 env P1 = .ok d P2) : vAnd f1 f2 env P = .ok d P2 := by unfold vAnd; rw [bnd_ok h]; exact h2
theorem vAnd_f (h : f1 env P = .ok (.bool false) P1) : vAnd f1 f2 env P = .ok (.bool false) P1 := by unfold vAnd; rw [bnd_ok h]; rfl
theorem vOr_f (h : f1 env P = .ok (.bool false) P1) (h2 : f2 env P1 = .ok d P2) : vOr f1 f2 env P = .ok d P2 := by unfold vOr; rw [bnd_ok h]; exact h2
theorem vOr_t (h : f1 env P = .ok (.bool true) P1) : vOr f1 f2 env P = .ok (.bool true) P1 := by unfold vOr; rw [bnd_ok h]; rfl
theorem vNot_ok (h : f env P = .ok (.bool b) P1) : vNot f env P = .ok (.bool (!b)) P1 := by unfold vNot; rw [bnd_ok h]; rfl
theorem vIf_t (h : c env P = .ok true P1) (h2 : f1 env P1 = .ok d P2) : vIf c f1 f2 env P = .ok d P2 := by unfold vIf; rw [bnd_ok h]; exact h2
theorem vIf_f (h : c env P = .ok false P1) (h2 : f2 env P1 = .ok d P2) : vIf c f1 f2 env P = .ok d P2 := by unfold vIf; rw [bnd_ok h]; exact h2
theorem dChain_t {op op2 : D → D → Option D} (h : f1 env P = .ok x P1) (h2 : f2 env P1 = .ok y P2) (h3 : op x y = some (.bool true)) (h4 : f3 env P2 = .ok z P3) (h5 : op2 y z = some d) : dChain op op2 f1 f2 f3 env P = .ok d P3 := by
  unfold dChain; rw [bnd_ok h, bnd_ok h2, h3]
  show bnd (f3 env) _ P2 = _
  rw [bnd_ok h4, h5]; rfl
theorem dChain_f {op op2 : D → D → Option D} (h : f1 env P = .ok x P1) (h2 : f2 env P1 = .ok y P2) (h3 : op x y = some (.bool false)) : dChain op op2 f1 f2 f3 env P = .ok (.bool false) P2 := by
  unfold dChain; rw [bnd_ok h, bnd_ok h2, h3]; rfl
theorem dB_ok {op : List D → Option D} (h : g env P = .ok ds P1) (h2 : op ds = some d) : dB op g env P = .ok d P1 := by unfold dB; rw [bnd_ok h, h2]; rfl
theorem dIsi_ok {T : String} (h : f env P = .ok d P1) : dIsi T f env P = .ok (.bool (isD T d)) P1 := by unfold dIsi; rw [bnd_ok h]; rfl
theorem dIsiT_ok {T : List String} (h : f env P = .ok d P1) : dIsiT T f env P = .ok (.bool (T.any fun T => isD T d)) P1 := by unfold dIsiT; rw [bnd_ok h]; rfl
theorem dMA_ok {ms : Ms} {op : D → List D → Option D} (h : f env P = .ok x P1) (hm : ms (tyD x) = some op) (h2 : g env P1 = .ok ds P2) (h3 : op x ds = some d) : dMA ms f g env P = .ok d P2 := by unfold dMA; rw [bnd_ok h, hm]; simp only [bnd_ok h2, h3]; rfl
theorem dPart_ok (h : f env P = .ok (.int k) P1) : dPart f env P = .ok (some k) P1 := by unfold dPart; rw [bnd_ok h]; rfl
theorem dNoPart_ok : dNoPart env P = .ok none P := rfl
theorem dSlice_ok {lo hi : Env → M (Option Int)} {l u : Option Int} (h : f env P = .ok x P1) (h2 : lo env P1 = .ok l P2) (h3 : hi env P2 = .ok u P3) (h4 : dSl x l u = some d) : dSlice f lo hi env P = .ok d P3 := by unfold dSlice; rw [bnd_ok h, bnd_ok h2, bnd_ok h3, h4]; rfl
theorem dCall_ok {den : List SV → M D} (h : g env P = .ok ds P1) (hl : ds.length = n) (h2 : den (ds.map .v) P1 = .ok d P2) : dCall n den g env P = .ok d P1 := by unfold dCall; rw [bnd_ok h]; simp only [if_pos hl, h2]
theorem dCall_ex {den : List SV → M D} {c : Str} (h : g env P = .ok ds P1) (hl : ds.length = n) (h2 : den (ds.map .v) P1 = .ex c P2) : dCall n den g env P = .ex c P1 := by unfold dCall; rw [bnd_ok h]; simp only [if_pos hl, h2]
theorem dCallT_ok {den : List SV → M D} (h : g env P = .ok ds P1) (hl : ds.length = n) (h2 : den (ds.map .v) P1 = .ok d P2) (h3 : noL d = true) : dCallT n den g env P = .ok d P1 := by unfold dCallT; rw [bnd_ok h]; simp only [if_pos hl, h2, if_pos h3]
theorem dPen_ok {den : List SV → M D} (he : env[i]? = some .pen) (h : g env P = .ok ds P1) (hl : ds.length + 1 = n) (h2 : den (.pen :: ds.map .v) P1 = .ok d P2) : dPen i n den g env P = .ok d P2 := by unfold dPen; rw [he]; simp only [bnd_ok h, if_pos hl]; exact h2
theorem dPenK_ok (he : env[i]? = some .pen) : dPenK i env P = .ok (.int P.k) P := by unfold dPenK; rw [he]
theorem dPenS_ok (he : env[i]? = some .pen) : dPenS i env P = .ok (.int P.s) P := by unfold dPenS; rw [he]
theorem dPenC_ok (he : env[i]? = some .pen) : dPenC i env P = .ok (.list (P.cells.map PyData.int)) P := by unfold dPenC; rw [he]
theorem sPenK_ok (he : env[i]? = some .pen) (h : f env P = .ok (.int k) P1) : sPenK i f env P = .ok (.nx env) { P1 with k := k } := by unfold sPenK; rw [bnd_ok h, he]
theorem sPenS_ok (he : env[i]? = some .pen) (h : f env P = .ok (.int k) P1) : sPenS i f env P = .ok (.nx env) { P1 with s := k } := by unfold sPenS; rw [bnd_ok h, he]
theorem dKGet_ok {tb : List (Str × D)} {s : Str} (h : f env P = .ok (.str s) P1) (h2 : f2 env P1 = .ok x P2) (h3 : (tb.lookup s).getD x = d) : dKGet tb f f2 env P = .ok d P2 := by unfold dKGet; rw [bnd_ok h]; show bnd (f2 env) _ P1 = _; rw [bnd_ok h2, h3]; rfl
theorem pNil_ok : pNil env P = .ok [] P := rfl
theorem pCons_ok {pp : Env → M (List (D × D))} {ps : List (D × D)} (h : f1 env P = .ok x P1) (h2 : f2 env P1 = .ok y P2) (h3 : pp env P2 = .ok ps P3) : pCons f1 f2 pp env P = .ok ((x, y) :: ps) P3 := by unfold pCons; rw [bnd_ok h, bnd_ok h2, bnd_ok h3]; rfl
theorem dDisp_ok {pp : Env → M (List (D × D))} {ps : List (D × D)} {ks : List (Key × D)} (h : pp env P = .ok ps P1) (h2 : keysOf ps = some ks) (h3 : ks.length ≤ 15) : dDisp pp env P = .ok (.dict (dMerge [] ks)) P1 := by unfold dDisp; rw [bnd_ok h]; simp only [h2, if_pos h3]; rfl
/-! what is walked -/
theorem itD_list (h : f env P = .ok (.list ds) P1) : itD f env P = .ok ds P1 := by unfold itD; rw [bnd_ok h]; rfl
theorem itD_tup (h : f env P = .ok (.tuple ds) P1) : itD f env P = .ok ds P1 := by unfold itD; rw [bnd_ok h]; rfl
theorem itD_str {s : Str} (h : f env P = .ok (.str s) P1) : itD f env P = .ok (signs s) P1 := by unfold itD; rw [bnd_ok h]; rfl
theorem itR1_ok (h : g env P = .ok [.int k] P1) (hk : -(2 ^ 62) ≤ k ∧ k < 2 ^ 62) : itR1 g env P = .ok (rangeD 0 k.toNat) P1 := by unfold itR1; rw [bnd_ok h]; simp only [if_pos hk]; rfl
theorem itE1_ok (h : f env P = .ok d P1) (h2 : walkD d = some ds) : itE1 f env P = .ok (enumD 0 ds) P1 := by unfold itE1; rw [bnd_ok h, h2]; rfl
theorem itES_ok (h : f env P = .ok d P1) (h2 : f2 env P1 = .ok (.int k) P2) (hk : -(2 ^ 63) ≤ k ∧ k < 2 ^ 63) (h3 : walkD d = some ds) : itES f f2 env P = .ok (enumD k ds) P2 := by unfold itES; rw [bnd_ok h, bnd_ok h2]; simp only [if_pos hk, h3]; rfl
theorem itZ2_ok {d1 d2 : D} {as bs : List D} (h : g env P = .ok [d1, d2] P1) (h1 : walkD d1 = some as) (h2 : walkD d2 = some bs) : itZ2 g env P = .ok (zipD as bs) P1 := by unfold itZ2; rw [bnd_ok h]; simp only [h1, h2]; rfl
/-! statements -/
variable {s1 s2 : Env → M Fl} {r : R Fl} {o : Fl}
theorem sSeq_nx (h : s1 env P = .ok (.nx e) P1) (h2 : s2 e P1 = r) : sSeq s1 s2 env P = r := by unfold sSeq; rw [bnd_ok h]; exact h2
theorem sSeq_rt (h : s1 env P = .ok (.rt d) P1) : sSeq s1 s2 env P = .ok (.rt d) P1 := by unfold sSeq; rw [bnd_ok h]; rfl
theorem sSeq_ex {c : Str} (h : s1 env P = .ex c P1) : sSeq s1 s2 env P = .ex c P1 := by unfold sSeq; rw [bnd_ex h]
theorem sNil_ok : sNil env P = .ok (.nx env) P := rfl
theorem sExpr_ok (h : f env P = .ok d P1) : sExpr f env P = .ok (.nx env) P1 := by unfold sExpr; rw [bnd_ok h]; rfl
theorem sExpr_ex {c : Str} (h : f env P = .ex c P1) : sExpr f env P = .ex c P1 := by unfold sExpr; rw [bnd_ex h]
theorem sSet_ok (h : f env P = .ok d P1) : sSet i f env P = .ok (.nx (env.set i (.v d))) P1 := by unfold sSet; rw [bnd_ok h]; rfl
theorem sOwn_ok (h : f env P = .ok (.list ds) P1) : sOwn i f env P = .ok (.nx (env.set i (.own ds))) P1 := by unfold sOwn; rw [bnd_ok h]; rfl
theorem sRet_ok (h : f env P = .ok d P1) : sRet f env P = .ok (.rt d) P1 := by unfold sRet; rw [bnd_ok h]; rfl
theorem sRet_ex {c : Str} (h : f env P = .ex c P1) : sRet f env P = .ex c P1 := by unfold sRet; rw [bnd_ex h]
theorem sRetO_ok (h : env[i]? = some (.own ds)) : sRetO i env P = .ok (.rt (.list ds)) P := by unfold sRetO; rw [h]; rfl
theorem sIf_t (h : c env P = .ok true P1) (h2 : s1 env P1 = r) : sIf c s1 s2 env P = r := by unfold sIf; rw [bnd_ok h]; exact h2
theorem sIf_f (h : c env P = .ok false P1) (h2 : s2 env P1 = r) : sIf c s1 s2 env P = r := by unfold sIf; rw [bnd_ok h]; exact h2
theorem sAsg_ok {tg : D → Env → Option Env} (h : f env P = .ok d P1) (h2 : tg d env = some e) : sAsg f tg env P = .ok (.nx e) P1 := by unfold sAsg; rw [bnd_ok h]; simp only [h2]; rfl
theorem sPar2_ok (h : g env P = .ok [x, y] P1) : sPar2 i j g env P = .ok (.nx ((env.set i (.v x)).set j (.v y))) P1 := by unfold sPar2; rw [bnd_ok h]; rfl
theorem sApp_ok (he : env[i]? = some (.own ds)) (h : f env P = .ok d P1) (hl : ds.length < 16777216) : sApp i f env P = .ok (.nx (env.set i (.own (ds ++ [d])))) P1 := by unfold sApp; rw [he]; simp only [bnd_ok h, if_pos hl]; rfl
theorem sShare_ok (he : env[i]? = some (.own ds)) (h : s1 (env.set i (.v (.list ds))) P = r) : sShare i s1 env P = r := by unfold sShare; rw [he]; exact h
theorem sFor_ok {it : Env → M (List D)} {tg : D → Env → Option Env} (h : it env P = .ok ds P1) (h2 : loopD tg s1 ds env P1 = r) : sFor it tg s1 env P = r := by unfold sFor; rw [bnd_ok h]; exact h2
theorem denOf_rt {ss : List SV} (h : s1 (ss ++ List.replicate (n - ss.length) .un) P = .ok (.rt d) P1) : denOf n s1 ss P = .ok d P1 := by unfold denOf; rw [h]
theorem denOf_ex {ss : List SV} {c : Str} (h : s1 (ss ++ List.replicate (n - ss.length) .un) P = .ex c P1) : denOf n s1 ss P = .ex c P1 := by unfold denOf; rw [h]
theorem denOf_nx {ss : List SV} (h : s1 (ss ++ List.replicate (n - ss.length) .un) P = .ok (.nx e) P1) : denOf n s1 ss P = .ok .none P1 := by unfold denOf; rw [h]
/-! operations on integers -/
theorem o_mod {a m : Int} (h : 0 < m) : dMod (.int a) (.int m) = some (.int (a % m)) := guardD_of (decide_eq_true h)
theorem o_div {a m : Int} (h : 0 < m ∧ m < 1073741824) : dDiv (.int a) (.int m) = some (.int (a / m)) := guardD_of (decide_eq_true h)
theorem o_mul {a m : Int} (h : (-(2 ^ 64) < a ∧ a < 2 ^ 64) ∨ (-(2 ^ 64) < m ∧ m < 2 ^ 64)) : dMul (.int a) (.int m) = some (.int (a * m)) := guardD_of (decide_eq_true h)
theorem o_pow {a m : Int} (h : 0 ≤ m ∧ m ≤ 1000000 ∧ a.natAbs < 2 ^ 64) : dPow (.int a) (.int m) = some (.int (a ^ m.toNat)) := guardD_of (decide_eq_true h)
theorem o_shl {a m : Int} (h : 0 ≤ m ∧ m ≤ 1000000 ∧ a.natAbs < 2 ^ 64) : dShl (.int a) (.int m) = some (.int (a * 2 ^ m.toNat)) := guardD_of (decide_eq_true h)
theorem o_shr {a m : Int} (h : 0 ≤ m) : dShr (.int a) (.int m) = some (.int (a / 2 ^ m.toNat)) := guardD_of (decide_eq_true h)
theorem o_eqI {a m : Int} : dEqA (.int a) (.int m) = some (.bool (decide (a = m))) := rfl
theorem o_neI {a m : Int} : dNeA (.int a) (.int m) = some (.bool (!decide (a = m))) := rfl
theorem o_eqS {a m : Str} : dEqA (.str a) (.str m) = some (.bool (decide (a = m))) := rfl
theorem o_neS {a m : Str} : dNeA (.str a) (.str m) = some (.bool (!decide (a = m))) := rfl
end

theorem conv_ok {α : Type} {m : M α} {P P1 : Pen} {a b : α} (h : m P = .ok a P1) (e : a = b) : m P = .ok b P1 := by rw [h, e]


theorem ex_st {α : Type} {Q : α → R Fl} {env e : Env} {P P1 : Pen} {s1 s2 : Env → M Fl} (h : s1 env P = .ok (.nx e) P1) (h2 : ∃ a, s2 e P1 = Q a) : ∃ a, sSeq s1 s2 env P = Q a := h2.elim fun a q => ⟨a, sSeq_nx h q⟩
theorem ex_den {α : Type} {Q : α → D} {n : Nat} {P P1 : Pen} {ss : List SV} {s1 : Env → M Fl} (h : ∃ a, s1 (ss ++ List.replicate (n - ss.length) .un) P = .ok (.rt (Q a)) P1) : ∃ a, denOf n s1 ss P = .ok (Q a) P1 := h.elim fun a q => ⟨a, denOf_rt q⟩
end Vl
end
section
open Vl
local macro_rules | `(tactic| wtm_at "vl ev") => `(tactic| first
  | with_reducible assumption
  | (with_reducible exact dC_ok) | (with_reducible exact aNil_ok) | (with_reducible exact dNoPart_ok) | (with_reducible exact pNil_ok) | (with_reducible exact sNil_ok)
  | ((with_reducible apply bVar_v); exact rfl) | ((with_reducible apply bVar_o); exact rfl) | ((with_reducible apply dVar_v); exact rfl) | ((with_reducible apply dPenK_ok); exact rfl) | ((with_reducible apply dPenS_ok); exact rfl) | ((with_reducible apply dPenC_ok); exact rfl)
  | ((with_reducible apply aCons_ok); wtm_at "vl ev"; wtm_at "vl ev")
  | ((with_reducible apply d2_ok); wtm_at "vl ev"; wtm_at "vl ev"; wtm_at "vl evo")
  | ((with_reducible apply d1_ok); wtm_at "vl ev"; wtm_at "vl evo")
  | ((with_reducible apply dTup_ok); wtm_at "vl ev"; wtm_at "vl evo")
  | ((with_reducible apply dLst_ok); wtm_at "vl ev"; wtm_at "vl evo")
  | ((with_reducible apply tV_ok); wtm_at "vl ev")
  | ((with_reducible apply tTru_ok); wtm_at "vl ev"; wtm_at "vl evo")
  | ((with_reducible apply mNot_ok); wtm_at "vl ev")
  | ((with_reducible apply mNot_t); wtm_at "vl ev")
  | ((with_reducible apply mNot_f); wtm_at "vl ev")
  | ((with_reducible apply vNot_ok); wtm_at "vl ev")
  | ((with_reducible apply dB_ok); wtm_at "vl ev"; wtm_at "vl evo")
  | ((with_reducible apply dIsi_ok); wtm_at "vl ev")
  | ((with_reducible apply dIsiT_ok); wtm_at "vl ev")
  | ((with_reducible apply dMA_ok); wtm_at "vl ev"; wtm_at "vl evo"; wtm_at "vl ev"; wtm_at "vl evo")
  | ((with_reducible apply dPart_ok); wtm_at "vl ev")
  | ((with_reducible apply dSlice_ok); wtm_at "vl ev"; wtm_at "vl ev"; wtm_at "vl ev"; wtm_at "vl evo")
  | ((with_reducible apply dCall_ok); wtm_at "vl ev"; exact rfl; wtm_at "vl ev")
  | ((with_reducible apply dCallT_ok); wtm_at "vl ev"; exact rfl; wtm_at "vl ev"; wtm_at "vl evo")
  | ((with_reducible apply dPen_ok); exact rfl; wtm_at "vl ev"; exact rfl; wtm_at "vl ev")
  | ((with_reducible apply dKGet_ok); wtm_at "vl ev"; wtm_at "vl ev"; wtm_at "vl evo")
  | ((with_reducible apply pCons_ok); wtm_at "vl ev"; wtm_at "vl ev"; wtm_at "vl ev")
  | ((with_reducible apply dDisp_ok); wtm_at "vl ev"; exact rfl; decide)
  | ((with_reducible apply sSet_ok); wtm_at "vl ev")
  | ((with_reducible apply sOwn_ok); wtm_at "vl ev")
  | ((with_reducible apply sRet_ok); wtm_at "vl ev")
  | ((with_reducible apply sExpr_ok); wtm_at "vl ev")
  | ((with_reducible apply sPar2_ok); wtm_at "vl ev")
  | ((with_reducible apply sAsg_ok); wtm_at "vl ev"; exact rfl)
  | ((with_reducible apply sPenK_ok); exact rfl; wtm_at "vl ev")
  | ((with_reducible apply sPenS_ok); exact rfl; wtm_at "vl ev")
  | ((with_reducible apply sRetO_ok); exact rfl)
  | ((with_reducible apply itD_list); wtm_at "vl ev")
  | ((with_reducible apply itD_tup); wtm_at "vl ev")
  | ((with_reducible apply itD_str); wtm_at "vl ev")
  | ((with_reducible apply itR1_ok); wtm_at "vl ev"; wtm_at "vl evo")
  | ((with_reducible apply itE1_ok); wtm_at "vl ev"; exact rfl)
  | exact dC_ok | assumption | fail "no rule")
local macro_rules | `(tactic| wtm_at "vl evo") => `(tactic| first
  | assumption
  | ((with_reducible apply o_mod); omega) | ((with_reducible apply o_div); omega) | ((with_reducible apply o_mul); omega) | ((with_reducible apply o_pow); omega) | ((with_reducible apply o_shl); omega) | ((with_reducible apply o_shr); omega)
  | with_reducible exact o_eqI | with_reducible exact o_neI | with_reducible exact o_eqS | with_reducible exact o_neS
  | exact rfl | decide | omega)
local macro_rules | `(tactic| wtm_at "vl evc") => `(tactic| first | wtm_at "vl ev" | (apply conv_ok; wtm_at "vl ev"; exact rfl))
local macro_rules | `(tactic| wtm_at "vl st") => `(tactic| (apply sSeq_nx; (· wtm_at "vl evc")))
local macro_rules | `(tactic| wtm_at "vl ste") => `(tactic| (apply ex_st; (· wtm_at "vl evc")))
section
set_option autoImplicit false
set_option maxRecDepth 100000
set_option maxHeartbeats 1000000
/-! M1: the pen. -/
namespace Tk
open PySem Vl

def isCnt (d : D) (lo hi : Int) : Bool := match d with
  | .int i => decide (lo ≤ i) && decide (i ≤ hi)
  | _ => false
theorem o_le {a m : Int} : dLe (.int a) (.int m) = some (.bool (decide (a ≤ m))) := rfl
theorem is_count_eq (d : D) (lo hi : Int) (P : Pen) : den_is_count [.v d, .v (.int lo), .v (.int hi)] P = .ok (.bool (isCnt d lo hi)) P := by
  refine denOf_rt ?_
  cases d with
  | int i =>
    refine sSeq_nx (sIf_f (mOr_f (by wtm_at "vl evc") (by wtm_at "vl evc")) sNil_ok) (sRet_ok ?_)
    by_cases h : lo ≤ i
    · refine dChain_t (bVar_v rfl) (bVar_v rfl) (o_le.trans (by rw [decide_eq_true h])) (bVar_v rfl) ?_
      rw [o_le, isCnt, decide_eq_true h, Bool.true_and]
    · have : isCnt (.int i) lo hi = false := by rw [isCnt, decide_eq_false h, Bool.false_and]
      rw [this]
      exact dChain_f (bVar_v rfl) (bVar_v rfl) (o_le.trans (by rw [decide_eq_false h]))
  | bool b => exact sSeq_rt (sIf_t (mOr_t (by wtm_at "vl evc")) (by wtm_at "vl evc"))
  | _ => exact sSeq_rt (sIf_t (mOr_f (by wtm_at "vl evc") (by wtm_at "vl evc")) (by wtm_at "vl evc"))
theorem atI_some {xs : List D} {R : D → Prop} (h : ∀ d ∈ xs, R d) {i : Int} (h0 : 0 ≤ i) (hi : i < xs.length) : ∃ d, L2.atI xs i = some d ∧ R d := by
  obtain ⟨j, rfl⟩ := (Int.eq_ofNat_of_zero_le h0)
  have hj : j < xs.length := by omega
  refine ⟨xs[j], ?_, h _ (List.getElem_mem hj)⟩
  exact (L2.atI_nat (List.getElem?_eq_getElem hj))
def prs : List D := [.int 2147483629, .int 2147483587, .int 2147483579, .int 2147483563, .int 2147483549, .int 2147483543, .int 2147483497, .int 2147483489, .int 2147483477, .int 2147483423, .int 2147483399, .int 2147483353, .int 2147483323]
theorem pr_at (i : Int) : ∃ p : Int, dIxA (.list prs) (.int (i % 13)) = some (.int p) ∧ 0 < p ∧ p < 2147483648 := by
  have h0 : 0 ≤ i % 13 := Int.emod_nonneg _ (by decide)
  have h1 : i % 13 < 13 := Int.emod_lt_of_pos _ (by decide)
  obtain ⟨d, e, p, rfl, h⟩ := atI_some (xs := prs) (R := fun d => ∃ p : Int, d = .int p ∧ 0 < p ∧ p < 2147483648) (fun d hd => by
    simp only [prs, List.mem_cons, List.not_mem_nil, or_false] at hd
    rcases hd with rfl | rfl | rfl | rfl | rfl | rfl | rfl | rfl | rfl | rfl | rfl | rfl | rfl <;> exact ⟨_, rfl, by decide, by decide⟩) h0 h1
  exact ⟨p, e, h⟩
theorem spread_ok (c k : Int) (h0 : 0 ≤ k) (h1 : k ≤ 1048576) (P : Pen) : ∃ s, den__law_spread [.v (.int c), .v (.int k)] P = .ok (.int s) P := by
  have ht : ∀ e : Vl.Env, e[0]? = some (.v (.int c)) → tV (d2 dGe (bVar 0) (d2 dPow (dC (.int 10)) (dC (.int 18)))) e P = .ok (decide (1000000000000000000 ≤ c)) P := fun e he => tV_ok (d2_ok (bVar_v he) (d2_ok dC_ok dC_ok rfl) rfl)
  by_cases hc : 1000000000000000000 ≤ c
  · refine ⟨c, denOf_rt (sSeq_rt (sIf_t ((ht _ rfl).trans ?_) (by wtm_at "vl evc")))⟩
    rw [decide_eq_true hc]
  · obtain ⟨p1, e1, a1, b1⟩ := pr_at k
    obtain ⟨p2, e2, a2, b2⟩ := pr_at (k + 5)
    obtain ⟨p3, e3, a3, b3⟩ := pr_at (k + 7)
    have m0 : 0 ≤ c % 1000000007 := Int.emod_nonneg _ (by decide)
    have m1 : c % 1000000007 < 1000000007 := Int.emod_lt_of_pos _ (by decide)
    have k0 : 0 ≤ c % 65537 := Int.emod_nonneg _ (by decide)
    have k1 : c % 65537 < 65537 := Int.emod_lt_of_pos _ (by decide)
    apply ex_den
    apply ex_st
    · exact sIf_f ((ht _ rfl).trans (by rw [decide_eq_false hc])) sNil_ok
    wtm_at "vl ste"
    wtm_at "vl ste"
    have l2 : 0 ≤ 2 * k + 69069 ∧ 2 * k + 69069 < 2166222 := by omega
    have q0 : 0 ≤ c % 1000000007 * (2 * k + 69069) := Int.mul_nonneg m0 l2.1
    have q1 : c % 1000000007 * (2 * k + 69069) ≤ 1000000007 * 2166222 := Int.mul_le_mul (by omega) (by omega) l2.1 (by decide)
    wtm_at "vl ste"
    have e1' : dIxA (.list prs) (.int (k % 13)) = some (.int p1) := e1
    wtm_at "vl ste"
    have A0 : 0 ≤ (c % 1000000007 * (2 * k + 69069) + k * 40503 + 977) ^ (3 : Int).toNat % p1 := Int.emod_nonneg _ (by omega)
    have A1 : (c % 1000000007 * (2 * k + 69069) + k * 40503 + 977) ^ (3 : Int).toNat % p1 < p1 := Int.emod_lt_of_pos _ a1
    generalize (c % 1000000007 * (2 * k + 69069) + k * 40503 + 977) ^ (3 : Int).toNat % p1 = A at A0 A1 ⊢
    have B0 : 0 ≤ A * (k + 3) := Int.mul_nonneg A0 (by omega)
    have B1 : A * (k + 3) ≤ 2147483648 * 1048579 := Int.mul_le_mul (by omega) (by omega) (by omega) (by decide)
    wtm_at "vl ste"
    have C0 : 0 ≤ (A * (k + 3) + c % 65537 + 5) ^ (5 : Int).toNat % p2 := Int.emod_nonneg _ (by omega)
    have C1 : (A * (k + 3) + c % 65537 + 5) ^ (5 : Int).toNat % p2 < p2 := Int.emod_lt_of_pos _ a2
    generalize (A * (k + 3) + c % 65537 + 5) ^ (5 : Int).toNat % p2 = C at C0 C1 ⊢
    have g0 : 0 ≤ A % 1009 := Int.emod_nonneg _ (by decide)
    have g1 : A % 1009 < 1009 := Int.emod_lt_of_pos _ (by decide)
    wtm_at "vl ste"
    exact ⟨_, by wtm_at "vl evc"⟩
theorem o_lt {a m : Int} : dLt (.int a) (.int m) = some (.bool (decide (a < m))) := rfl
/-- the pen in law: its tables, its turn; so many draws are left -/
structure Gd (tb : List (Addr × Str)) (n : Nat) (P : Pen) : Prop where
  tb : P.tb = tb
  k0 : 0 ≤ P.k
  k1 : P.k + n ≤ 1048576
theorem Gd.mono {tb : List (Addr × Str)} {n m : Nat} {P : Pen} (g : Gd tb n P) (h : m ≤ n) : Gd tb m P := ⟨g.tb, g.k0, by have := g.k1; omega⟩
theorem take_ok {tb : List (Addr × Str)} {n : Nat} {P : Pen} (g : Gd tb (n + 1) P) (many : Int) (h : 0 < many ∧ many < 1073741824) : ∃ v P', den__law_take [.pen, .v (.int many)] P = .ok (.int v) P' ∧ 0 ≤ v ∧ v < many ∧ Gd tb n P' := by
  have fin : ∀ (e : Vl.Env) (P1 : Pen), e[0]? = some .pen → e[1]? = some (.v (.int many)) → 4 < e.length → Gd tb n P1 → ∃ v P', sSeq (sSet 4 (d2 dMod (dB gInt (aCons (dPenS 0) aNil)) (bVar 1))) (sSeq (sPenS 0 (d2 dDiv (dPenS 0) (bVar 1))) (sRet (dVar 4))) e P1 = .ok (.rt (.int v)) P' ∧ 0 ≤ v ∧ v < many ∧ Gd tb n P' := by
    intro e P1 h0 h1 hl g1
    refine ⟨P1.s % many, { P1 with s := P1.s / many }, ?_, Int.emod_nonneg _ (by omega), Int.emod_lt_of_pos _ h.1, ⟨g1.tb, g1.k0, g1.k1⟩⟩
    have z0 : (e.set 4 (.v (.int (P1.s % many))))[0]? = some .pen := by rw [List.getElem?_set_ne (by decide)]; exact h0
    have z1 : (e.set 4 (.v (.int (P1.s % many))))[1]? = some (.v (.int many)) := by rw [List.getElem?_set_ne (by decide)]; exact h1
    have z4 : (e.set 4 (.v (.int (P1.s % many))))[4]? = some (.v (.int (P1.s % many))) := by rw [List.getElem?_set_self hl]
    exact sSeq_nx (sSet_ok (d2_ok (dB_ok (aCons_ok (dPenS_ok h0) aNil_ok) rfl) (bVar_v h1) (o_mod h.1))) (sSeq_nx (sPenS_ok z0 (d2_ok (dPenS_ok z0) (bVar_v z1) (o_div h))) (sRet_ok (dVar_v z4)))
  have k0 := g.k0
  have k1 := g.k1
  by_cases hs : P.s < many
  · -- a new stock
    have tail : ∀ cell : Int, ∃ s : Int, sSeq (sPenK 0 (d2 dAdd (bVar 2) (dC (.int 1)))) (sPenS 0 (dCall 2 den__law_spread (aCons (dVar 3) (aCons (dVar 2) aNil)))) [.pen, .v (.int many), .v (.int P.k), .v (.int cell), .un] P = .ok (.nx [.pen, .v (.int many), .v (.int P.k), .v (.int cell), .un]) { P with k := P.k + 1, s := s } := by
      intro cell
      obtain ⟨s, hs'⟩ := spread_ok cell P.k k0 (by omega) { P with k := P.k + 1 }
      exact ⟨s, sSeq_nx (sPenK_ok rfl (d2_ok (bVar_v rfl) dC_ok rfl)) (sPenS_ok rfl (dCall_ok (aCons_ok (dVar_v rfl) (aCons_ok (dVar_v rfl) aNil_ok)) rfl hs'))⟩
    have hlen : (P.cells.map PyData.int).length = P.cells.length := by simp
    have cellAt : ∀ i : Int, 0 ≤ i → i < P.cells.length → ∃ c : Int, dIxA (.list (P.cells.map PyData.int)) (.int i) = some (.int c) := fun i h0 h1 => by
      obtain ⟨d, e, c, rfl⟩ := atI_some (xs := P.cells.map PyData.int) (R := fun d => ∃ c : Int, d = .int c) (fun d hd => by
        obtain ⟨c, _, rfl⟩ := List.mem_map.mp hd
        exact ⟨c, rfl⟩) h0 (by rw [hlen]; exact h1)
      exact ⟨c, e⟩
    have pick : ∃ cell : Int, sIf (tV (d2 dLt (bVar 2) (dB gLen (aCons (dPenC 0) aNil)))) (sSet 3 (d2 dIxA (dPenC 0) (bVar 2))) (sIf (tV (d2 dGt (dB gLen (aCons (dPenC 0) aNil)) (dC (.int 0)))) (sSet 3 (d2 dMod (dB gInt (aCons (d2 dIxA (dPenC 0) (d2 dMod (dB gInt (aCons (d2 dAdd (d2 dMul (bVar 2) (dC (.int 5))) (dC (.int 3))) aNil)) (dB gLen (aCons (dPenC 0) aNil)))) aNil)) (d2 dAdd (d2 dPow (dC (.int 10)) (dC (.int 17))) (bVar 2)))) sNil) [.pen, .v (.int many), .v (.int P.k), .v (.int 0), .un] P = .ok (.nx [.pen, .v (.int many), .v (.int P.k), .v (.int cell), .un]) P := by
      have glen : gLen [.list (P.cells.map PyData.int)] = some (.int (P.cells.length : Int)) := by rw [← hlen]; rfl
      by_cases h1 : P.k < P.cells.length
      · obtain ⟨c, e⟩ := cellAt P.k k0 h1
        exact ⟨c, sIf_t (tV_ok (d2_ok (bVar_v rfl) (dB_ok (aCons_ok (dPenC_ok rfl) aNil_ok) glen) (o_lt.trans (by rw [decide_eq_true h1])))) (sSet_ok (d2_ok (dPenC_ok rfl) (bVar_v rfl) e))⟩
      · have f1 := tV_ok (d2_ok (bVar_v (P := P) (env := [.pen, .v (.int many), .v (.int P.k), .v (.int 0), .un]) (i := 2) rfl) (dB_ok (aCons_ok (dPenC_ok (i := 0) rfl) aNil_ok) glen) (o_lt.trans (by rw [decide_eq_false h1])))
        by_cases h2 : (0 : Int) < P.cells.length
        · obtain ⟨c, e⟩ := cellAt ((P.k * 5 + 3) % (P.cells.length : Int)) (Int.emod_nonneg _ (by omega)) (Int.emod_lt_of_pos _ h2)
          refine ⟨c % (100000000000000000 + P.k), sIf_f f1 (sIf_t (tV_ok (d2_ok (dB_ok (aCons_ok (dPenC_ok rfl) aNil_ok) glen) dC_ok (o_lt.trans (by rw [decide_eq_true h2])))) (sSet_ok (d2_ok (dB_ok (aCons_ok (d2_ok (dPenC_ok rfl) (d2_ok (dB_ok (aCons_ok (d2_ok (d2_ok (bVar_v rfl) dC_ok (o_mul (by omega))) dC_ok rfl) aNil_ok) rfl) (dB_ok (aCons_ok (dPenC_ok rfl) aNil_ok) glen) (o_mod h2)) e) aNil_ok) rfl) (d2_ok (d2_ok dC_ok dC_ok (o_pow (by omega))) (bVar_v rfl) rfl) (o_mod ?_))))⟩
          show 0 < (10 : Int) ^ (17 : Int).toNat + P.k
          have : (10 : Int) ^ (17 : Int).toNat = 100000000000000000 := rfl
          omega
        · exact ⟨0, sIf_f f1 (sIf_f (tV_ok (d2_ok (dB_ok (aCons_ok (dPenC_ok rfl) aNil_ok) glen) dC_ok (o_lt.trans (by rw [decide_eq_false h2])))) sNil_ok)⟩
    obtain ⟨cell, hp⟩ := pick
    obtain ⟨s, ht⟩ := tail cell
    obtain ⟨v, P', q1, q2⟩ := fin [.pen, .v (.int many), .v (.int P.k), .v (.int cell), .un] { P with k := P.k + 1, s := s } rfl rfl (Nat.le_refl 5) ⟨g.tb, by show 0 ≤ P.k + 1; omega, by show P.k + 1 + n ≤ 1048576; push_cast at k1; omega⟩
    exact ⟨v, P', denOf_rt (sSeq_nx (sIf_t (tV_ok (d2_ok (dPenS_ok rfl) (bVar_v rfl) (o_lt.trans (by rw [decide_eq_true hs])))) (sSeq_nx (sSet_ok (dPenK_ok rfl)) (sSeq_nx (sSet_ok dC_ok) (sSeq_nx hp ht)))) q1), q2⟩
  · obtain ⟨v, P', q1, q2⟩ := fin [.pen, .v (.int many), .un, .un, .un] P rfl rfl (Nat.le_refl 5) (g.mono (by omega))
    refine ⟨v, P', denOf_rt (sSeq_nx (sIf_f (tV_ok (d2_ok (dPenS_ok rfl) (bVar_v rfl) (o_lt.trans (by rw [decide_eq_false hs])))) sNil_ok) q1), q2⟩
end Tk
end
section
set_option autoImplicit false
set_option maxRecDepth 100000
set_option maxHeartbeats 1000000
/-! M2: words, gates, nets: what is one. -/
namespace Tk
open PySem Vl

theorem boolsOf_map {α : Type} (p : α → Bool) : ∀ xs : List α, boolsOf (xs.map fun d => .bool (p d)) = some (xs.map p)
  | [] => rfl
  | x :: xs => by
    show (boolsOf (xs.map fun d => .bool (p d))).map (p x :: ·) = _
    rw [boolsOf_map p xs]; rfl
theorem gAll_map {α : Type} (p : α → Bool) (xs : List α) : gAll [.list (xs.map fun d => .bool (p d))] = some (.bool (xs.all p)) := by
  show (boolsOf (xs.map fun d => .bool (p d))).map _ = _
  rw [boolsOf_map]
  show some (PyData.bool ((xs.map p).all id)) = _
  rw [List.all_map]; rfl
/-! ### words -/
abbrev Sg := Option Bool
def ch : Sg → Nat
  | some true => 49
  | some false => 48
  | none => 63
def wordS (w : List Sg) : Str := ⟨(w.map ch).toArray⟩
theorem wordS_len (w : List Sg) : (wordS w).length = w.length := by
  show (w.map ch).toArray.size = _
  simp
theorem signs_wordS (w : List Sg) : signs (wordS w) = w.map fun s => signD (ch s) := by
  show ((w.map ch).toArray.toList.map signD) = _
  simp
theorem sign_in (s : Sg) : dInA (signD (ch s)) (.str "01?") = some (.bool true) := by
  cases s with
  | none => kernel_rfl
  | some b => cases b <;> kernel_rfl
theorem is_word_ok (w : List Sg) (h : 1 ≤ w.length) (h2 : w.length ≤ 32) (P : Pen) : den_is_word [.v (.str (wordS w))] P = .ok (.bool true) P := by
  refine denOf_rt ?_
  have hl : gLen [.str (wordS w)] = some (.int (w.length : Int)) := by
    show (if (wordS w).length ≤ 16777216 then _ else none) = _
    rw [wordS_len, if_pos (by omega)]
  refine sSeq_nx (sIf_f (mOr_f (by wtm_at "vl evc") (mNot_ok (tV_ok (dChain_t dC_ok (dB_ok (aCons_ok (bVar_v rfl) aNil_ok) hl) (show dLe (.int 1) (.int (w.length : Int)) = some (.bool true) by rw [o_le, decide_eq_true (by omega)]) dC_ok (show dLe (.int (w.length : Int)) (.int 32) = some (.bool true) by rw [o_le, decide_eq_true (by omega)]))))) sNil_ok) (sRet_ok ?_)
  refine dB_ok (aCons_ok (dComp_map (fun _ => .bool true) (itD_str (dVar_v rfl)) (by rw [signs_wordS, List.length_map]; omega) fun d hd => ?_) aNil_ok) ?_
  · rw [signs_wordS] at hd
    obtain ⟨s, _, rfl⟩ := List.mem_map.mp hd
    exact ⟨_, rfl, d2_ok (bVar_v rfl) dC_ok (sign_in s)⟩
  · have := gAll_map (fun _ : D => true) (signs (wordS w))
    rw [this]
    simp
/-! ### gates -/
def partsI (k : Str) : Int := if k = "0" then 1 else if k = "1" then 1 else if k = "not" then 2 else if k = "and" then 3 else if k = "or" then 3 else 0
theorem parts_tab (k : Str) : (tb_PARTS.lookup k).getD (.int 0) = .int (partsI k) := by
  unfold partsI tb_PARTS
  simp only [List.lookup_cons, List.lookup_nil]
  by_cases h1 : k = "0"
  · subst h1; rfl
  by_cases h2 : k = "1"
  · subst h2; rfl
  by_cases h3 : k = "not"
  · subst h3; rfl
  by_cases h4 : k = "and"
  · subst h4; rfl
  by_cases h5 : k = "or"
  · subst h5; rfl
  simp only [beq_eq_false_iff_ne.mpr h1, beq_eq_false_iff_ne.mpr h2, beq_eq_false_iff_ne.mpr h3, beq_eq_false_iff_ne.mpr h4, beq_eq_false_iff_ne.mpr h5, if_neg h1, if_neg h2, if_neg h3, if_neg h4, if_neg h5]
  rfl
def isGateB (g : D) (own : Int) : Bool := match g with
  | .tuple (.str k :: r) => decide ((r.length : Int) + 1 = partsI k) && r.all (fun d => isCnt d 0 (own - 1))
  | _ => false
theorem cut1 (x : D) (r : List D) : cutD (x :: r) (some 1) none = r := by
  unfold cutD
  rw [HT.sIx_none]
  have e : HT.sIx (x :: r).length 0 (some 1) = 1 := by
    have := HT.sIx_nat (x :: r).length 0 1
    rw [List.length_cons] at this ⊢
    rw [show (some (1 : Int)) = some ((1 : Nat) : Int) from rfl, this]
    omega
  rw [e]
  simp
theorem ix0 (x : D) (r : List D) : dIxA (.tuple (x :: r)) (.int 0) = some x := L2.atI_nat (j := 0) rfl
theorem glen_tup (xs : List D) : gLen [.tuple xs] = some (.int (xs.length : Int)) := rfl
theorem is_gate_eq (g : D) (own : Int) (P : Pen) (hf : ∀ xs, g = .tuple xs → xs.length ≤ 16777216) : den_is_gate [.v g, .v (.int own)] P = .ok (.bool (isGateB g own)) P := by
  refine denOf_rt ?_
  cases g with
  | tuple xs =>
    cases xs with
    | nil => exact sSeq_rt (sIf_t (mOr_f (by wtm_at "vl evc") (by wtm_at "vl evc")) (by wtm_at "vl evc"))
    | cons x r =>
      refine sSeq_nx (sIf_f (mOr_f (by wtm_at "vl evc") (tV_ok (d2_ok (dB_ok (aCons_ok (bVar_v rfl) aNil_ok) (glen_tup _)) dC_ok (o_eqI.trans (by rw [decide_eq_false (by rw [List.length_cons]; omega)])))) ) sNil_ok) (sSeq_nx (sSet_ok (d2_ok (bVar_v rfl) dC_ok (ix0 x r))) ?_)
      cases x with
      | str k =>
        have hne : dNeA (.int ((PyData.str k :: r).length : Int)) (.int (partsI k)) = some (.bool (!decide ((r.length : Int) + 1 = partsI k))) := by
          rw [o_neI, List.length_cons]; rfl
        by_cases hk : (r.length : Int) + 1 = partsI k
        · refine sSeq_nx (sIf_f (mOr_f (by wtm_at "vl evc") (tV_ok (d2_ok (dB_ok (aCons_ok (bVar_v rfl) aNil_ok) (glen_tup _)) (dKGet_ok (bVar_v rfl) dC_ok (parts_tab k)) (hne.trans (by rw [decide_eq_true hk]; rfl))))) sNil_ok) (sRet_ok ?_)
          have e : isGateB (.tuple (.str k :: r)) own = r.all (fun d => isCnt d 0 (own - 1)) := by rw [isGateB, decide_eq_true hk, Bool.true_and]
          rw [e, ]
          refine dB_ok (aCons_ok (dComp_map (ds := r) (fun d => .bool (isCnt d 0 (own - 1))) (itD_tup (dSlice_ok (bVar_v rfl) (dPart_ok dC_ok) dNoPart_ok (show _ = some (PyData.tuple r) by show some (PyData.tuple (cutD _ _ _)) = _; rw [cut1]))) (by have := hf _ rfl; rw [List.length_cons] at this; omega) fun d _ => ⟨_, rfl, ?_⟩) aNil_ok) (gAll_map _ r)
          exact dCall_ok (aCons_ok (dVar_v rfl) (aCons_ok dC_ok (aCons_ok (d2_ok (bVar_v rfl) dC_ok rfl) aNil_ok))) rfl (is_count_eq d 0 (own - 1) P)
        · have e : isGateB (.tuple (.str k :: r)) own = false := by rw [isGateB, decide_eq_false hk, Bool.false_and]
          rw [e]
          exact sSeq_rt (sIf_t (mOr_f (by wtm_at "vl evc") (tV_ok (d2_ok (dB_ok (aCons_ok (bVar_v rfl) aNil_ok) (glen_tup _)) (dKGet_ok (bVar_v rfl) dC_ok (parts_tab k)) (hne.trans (by rw [decide_eq_false hk]; rfl))))) (by wtm_at "vl evc"))
      | _ => exact sSeq_rt (sIf_t (mOr_t (by wtm_at "vl evc")) (by wtm_at "vl evc"))
  | _ => exact sSeq_rt (sIf_t (mOr_t (by wtm_at "vl evc")) (by wtm_at "vl evc"))
end Tk
end
section
set_option autoImplicit false
set_option maxRecDepth 100000
set_option maxHeartbeats 1000000
/-! M3: is_net, the law's own look. -/
namespace Tk
open PySem Vl

def gatesB : List D → Int → Bool
  | [], _ => true
  | g :: gs, own => isGateB g own && gatesB gs (own + 1)
/-- no tuple is too long for a list of its items -/
def Short (g : D) : Prop := ∀ xs, g = .tuple xs → xs.length ≤ 16777216
theorem o_gt {a m : Int} : dGt (.int a) (.int m) = some (.bool (decide (m < a))) := rfl
theorem gates_loop (a b : SV) (P : Pen) : ∀ (gs : List D) (own : Int) (x y : SV), (∀ g ∈ gs, Short g) →
    ∃ o, loopD (tgTup 2 (tgCons (tgName 2) (tgCons (tgName 3) tgNil))) (sIf (mNot (tTru (dCall 2 den_is_gate (aCons (dVar 3) (aCons (dVar 2) aNil))))) (sRet (dC (.bool false))) sNil) (enumD own gs) [a, b, x, y] P = .ok o P ∧
      ((gatesB gs own = false ∧ o = .rt (.bool false)) ∨ (gatesB gs own = true ∧ ∃ x y, o = .nx [a, b, x, y]))
  | [], own, x, y, _ => ⟨_, rfl, .inr ⟨rfl, x, y, rfl⟩⟩
  | g :: gs, own, x, y, h => by
    have e := is_gate_eq g own P (h g List.mem_cons_self)
    have ht : tTru (dCall 2 den_is_gate (aCons (dVar 3) (aCons (dVar 2) aNil))) [a, b, .v (.int own), .v g] P = .ok (isGateB g own) P := tTru_ok (dCall_ok (aCons_ok (dVar_v rfl) (aCons_ok (dVar_v rfl) aNil_ok)) rfl e) rfl
    unfold enumD loopD
    show ∃ o, bnd (sIf _ _ _ [a, b, .v (.int own), .v g]) _ P = .ok o P ∧ _
    cases hg : isGateB g own with
    | false =>
      rw [hg] at ht
      refine ⟨_, by rw [bnd_ok (sIf_t (mNot_t ht) (sRet_ok dC_ok))]; rfl, .inl ⟨?_, rfl⟩⟩
      rw [gatesB, hg, Bool.false_and]
    | true =>
      rw [hg] at ht
      obtain ⟨o, q1, q2⟩ := gates_loop a b P gs (own + 1) (.v (.int own)) (.v g) fun g' hg' => h g' (List.mem_cons_of_mem _ hg')
      refine ⟨o, by rw [bnd_ok (sIf_f (mNot_f ht) sNil_ok)]; exact q1, ?_⟩
      rw [gatesB, hg, Bool.true_and]
      exact q2
theorem are_gates_eq (gs : List D) (n : Int) (P : Pen) (hl : gs.length ≤ 100000) (hn : -(2 ^ 63) ≤ n ∧ n < 2 ^ 63) (h : ∀ g ∈ gs, Short g) : den_are_gates [.v (.tuple gs), .v (.int n)] P = .ok (.bool (gatesB gs n)) P := by
  refine denOf_rt ?_
  obtain ⟨o, q1, q2⟩ := gates_loop (.v (.tuple gs)) (.v (.int n)) P gs n .un .un h
  refine sSeq_nx (sIf_f (mOr_f (by wtm_at "vl evc") (tV_ok (d2_ok (dB_ok (aCons_ok (bVar_v rfl) aNil_ok) (glen_tup gs)) dC_ok (show dGt (.int (gs.length : Int)) (.int 100000) = some (.bool false) by rw [o_gt, decide_eq_false (by omega)])))) sNil_ok) ?_
  have hf := sFor_ok (itES_ok (P2 := P) (dVar_v (env := [.v (.tuple gs), .v (.int n), .un, .un]) (i := 0) (P := P) rfl) (dVar_v (i := 1) rfl) hn (show walkD (.tuple gs) = some gs from rfl)) q1
  rcases q2 with ⟨e, rfl⟩ | ⟨e, x, y, rfl⟩
  · rw [e]; exact sSeq_rt hf
  · rw [e]; exact sSeq_nx hf (sRet_ok dC_ok)
def outsB (os : List D) (many : Int) : Bool := decide (1 ≤ os.length) && decide (os.length ≤ 32) && os.all fun d => isCnt d 0 (many - 1)
def outsD (d : D) (many : Int) : Bool := match d with
  | .tuple os => outsB os many
  | _ => false
theorem are_outs_eq (d : D) (many : Int) (P : Pen) : den_are_outs [.v d, .v (.int many)] P = .ok (.bool (outsD d many)) P := by
  refine denOf_rt ?_
  cases d with
  | tuple os =>
    by_cases h1 : 1 ≤ os.length
    · by_cases h2 : os.length ≤ 32
      · have e : outsB os many = os.all fun d => isCnt d 0 (many - 1) := by rw [outsB, decide_eq_true h1, decide_eq_true h2, Bool.true_and, Bool.true_and]
        show _ = R.ok (Fl.rt (.bool (outsB os many))) P
        rw [e]
        refine sSeq_nx (sIf_f (mOr_f (by wtm_at "vl evc") (mNot_f (tV_ok (dChain_t dC_ok (dB_ok (aCons_ok (bVar_v rfl) aNil_ok) (glen_tup os)) (show dLe (.int 1) (.int (os.length : Int)) = some (.bool true) by rw [o_le, decide_eq_true (by omega)]) dC_ok (show dLe (.int (os.length : Int)) (.int 32) = some (.bool true) by rw [o_le, decide_eq_true (by omega)]))))) sNil_ok) (sRet_ok ?_)
        refine dB_ok (aCons_ok (dComp_map (ds := os) (fun d => .bool (isCnt d 0 (many - 1))) (itD_tup (dVar_v rfl)) (by omega) fun d _ => ⟨_, rfl, ?_⟩) aNil_ok) (gAll_map _ os)
        exact dCall_ok (aCons_ok (dVar_v rfl) (aCons_ok dC_ok (aCons_ok (d2_ok (bVar_v rfl) dC_ok rfl) aNil_ok))) rfl (is_count_eq d 0 (many - 1) P)
      · have e : outsB os many = false := by rw [outsB, decide_eq_false h2, Bool.and_false, Bool.false_and]
        show _ = R.ok (Fl.rt (.bool (outsB os many))) P
        rw [e]
        exact sSeq_rt (sIf_t (mOr_f (by wtm_at "vl evc") (mNot_t (tV_ok (dChain_t dC_ok (dB_ok (aCons_ok (bVar_v rfl) aNil_ok) (glen_tup os)) (show dLe (.int 1) (.int (os.length : Int)) = some (.bool true) by rw [o_le, decide_eq_true (by omega)]) dC_ok (show dLe (.int (os.length : Int)) (.int 32) = some (.bool false) by rw [o_le, decide_eq_false (by omega)]))))) (by wtm_at "vl evc"))
    · have e : outsB os many = false := by rw [outsB, decide_eq_false h1, Bool.false_and, Bool.false_and]
      show _ = R.ok (Fl.rt (.bool (outsB os many))) P
      rw [e]
      exact sSeq_rt (sIf_t (mOr_f (by wtm_at "vl evc") (mNot_t (tV_ok (dChain_f dC_ok (dB_ok (aCons_ok (bVar_v rfl) aNil_ok) (glen_tup os)) (show dLe (.int 1) (.int (os.length : Int)) = some (.bool false) by rw [o_le, decide_eq_false (by omega)]))))) (by wtm_at "vl evc"))
  | _ => exact sSeq_rt (sIf_t (mOr_t (by wtm_at "vl evc")) (by wtm_at "vl evc"))
/-- what a net is, of any data -/
def intOf : D → Int
  | .int i => i
  | _ => 0
def gatesD (d : D) (n : Int) : Bool := match d with
  | .tuple gs => gatesB gs n
  | _ => false
def lenD : D → Int
  | .tuple gs => gs.length
  | _ => 0
def isNetB (d : D) : Bool := match d with
  | .tuple [n, gs, os] => isCnt n 1 32 && (gatesD gs (intOf n) && outsD os (intOf n + lenD gs))
  | _ => false
/-- what may be looked at -/
structure Fine (d : D) : Prop where
  gates : ∀ n gs os, d = .tuple [n, .tuple gs, os] → gs.length ≤ 100000 ∧ ∀ g ∈ gs, Short g
theorem cnt_int {d : D} {lo hi : Int} (h : isCnt d lo hi = true) : ∃ i, d = .int i ∧ lo ≤ i ∧ i ≤ hi := by
  cases d with
  | int i =>
    rw [isCnt, Bool.and_eq_true] at h
    exact ⟨i, rfl, of_decide_eq_true h.1, of_decide_eq_true h.2⟩
  | _ => cases h
theorem is_net_eq (d : D) (hf : Fine d) (P : Pen) : den_is_net [.v d] P = .ok (.bool (isNetB d)) P := by
  refine denOf_rt ?_
  cases d with
  | tuple xs =>
    have hne : ∀ xs : List D, dNeA (.int (xs.length : Int)) (.int 3) = some (.bool (!decide ((xs.length : Int) = 3))) := fun _ => rfl
    match xs, hf with
    | [n, gs, os], hf =>
      refine sSeq_nx (sIf_f (mOr_f (by wtm_at "vl evc") (by wtm_at "vl evc")) sNil_ok) (sSeq_nx (sAsg_ok (dVar_v rfl) rfl) ?_)
      have hc : tTru (dCall 3 den_is_count (aCons (dVar 1) (aCons (dC (.int 1)) (aCons (dC (.int 32)) aNil)))) [.v (.tuple [n, gs, os]), .v n, .v gs, .v os] P = .ok (isCnt n 1 32) P := tTru_ok (dCall_ok (aCons_ok (dVar_v rfl) (aCons_ok dC_ok (aCons_ok dC_ok aNil_ok))) rfl (is_count_eq n 1 32 P)) rfl
      cases hb : isCnt n 1 32 with
      | false =>
        rw [hb] at hc
        have e : isNetB (.tuple [n, gs, os]) = false := by rw [isNetB, hb, Bool.false_and]
        rw [e]
        exact sSeq_rt (sIf_t (mNot_t hc) (by wtm_at "vl evc"))
      | true =>
        rw [hb] at hc
        obtain ⟨i, rfl, i0, i1⟩ := cnt_int hb
        refine sSeq_nx (sIf_f (mNot_f hc) sNil_ok) (sRet_ok ?_)
        cases gs with
        | tuple gs =>
          obtain ⟨h1, h2⟩ := hf.gates _ _ _ rfl
          have hg := dCall_ok (n := 2) (den := den_are_gates) (P2 := P) (aCons_ok (dVar_v (env := [.v (.tuple [.int i, .tuple gs, os]), .v (.int i), .v (.tuple gs), .v os]) (i := 2) (P := P) rfl) (aCons_ok (dVar_v (i := 1) rfl) aNil_ok)) rfl (are_gates_eq gs i P h1 (by omega) h2)
          have ho := dCall_ok (n := 2) (den := den_are_outs) (P2 := P) (aCons_ok (dVar_v (env := [.v (.tuple [.int i, .tuple gs, os]), .v (.int i), .v (.tuple gs), .v os]) (i := 3) (P := P) rfl) (aCons_ok (d2_ok (bVar_v (i := 1) rfl) (dB_ok (aCons_ok (bVar_v (i := 2) rfl) aNil_ok) (glen_tup gs)) (show dAdd (.int i) (.int (gs.length : Int)) = some (.int (i + (gs.length : Int))) from rfl)) aNil_ok)) rfl (are_outs_eq os (i + (gs.length : Int)) P)
          have e : isNetB (.tuple [.int i, .tuple gs, os]) = (gatesB gs i && outsD os (i + (gs.length : Int))) := by rw [isNetB, hb, Bool.true_and]; rfl
          rw [e]
          cases hgb : gatesB gs i with
          | false => rw [hgb] at hg; rw [Bool.false_and]; exact vAnd_f hg
          | true => rw [hgb] at hg; rw [Bool.true_and]; exact vAnd_t hg ho
        | _ =>
          rw [isNetB, hb]
          exact vAnd_f (dCall_ok (aCons_ok (dVar_v rfl) (aCons_ok (dVar_v rfl) aNil_ok)) rfl (denOf_rt (sSeq_rt (sIf_t (mOr_t (by wtm_at "vl evc")) (by wtm_at "vl evc")))))
    | [], _ => exact sSeq_rt (sIf_t (mOr_f (by wtm_at "vl evc") (by wtm_at "vl evc")) (by wtm_at "vl evc"))
    | [_], _ => exact sSeq_rt (sIf_t (mOr_f (by wtm_at "vl evc") (by wtm_at "vl evc")) (by wtm_at "vl evc"))
    | [_, _], _ => exact sSeq_rt (sIf_t (mOr_f (by wtm_at "vl evc") (by wtm_at "vl evc")) (by wtm_at "vl evc"))
    | a :: b :: c :: e :: r, _ =>
      refine sSeq_rt (sIf_t (mOr_f (by wtm_at "vl evc") (tV_ok (d2_ok (dB_ok (aCons_ok (bVar_v rfl) aNil_ok) (glen_tup _)) dC_ok ((hne _).trans (by rw [decide_eq_false (by simp only [List.length_cons]; omega)]; rfl))))) (by wtm_at "vl evc"))
  | _ => exact sSeq_rt (sIf_t (mOr_t (by wtm_at "vl evc")) (by wtm_at "vl evc"))
end Tk
end
section
set_option autoImplicit false
set_option maxRecDepth 100000
set_option maxHeartbeats 1000000
/-! M4: the law's own look at nets tells the same. -/
namespace Tk
open PySem Vl

theorem ones_shaped : ∀ ys : List D, (∀ y ∈ ys, y = .int 1) → PyData.canLayAll0 ys = true ∧ PyData.depthAll ys ≤ 1
  | [], _ => ⟨rfl, by simp [PyData.depthAll]⟩
  | y :: ys, h => by
    obtain ⟨h1, h2⟩ := ones_shaped ys fun z hz => h z (List.mem_cons_of_mem _ hz)
    have e := h y List.mem_cons_self
    subst e
    refine ⟨by simp [PyData.canLayAll0, PyData.canLay0, h1], ?_⟩
    simp [PyData.depthAll, PyData.depth]
    omega
theorem ones_eq (ys : List D) (h : ∀ y ∈ ys, y = .int 1) : dEqA (.list ys) (.list []) = some (.bool ys.isEmpty) := by
  obtain ⟨h1, h2⟩ := ones_shaped ys h
  show guardD (SeqAt.shaped (.list ys) && SeqAt.shaped (.list [])) (.bool (PyData.eqv (.list ys) (.list []))) = _
  have e1 : SeqAt.shaped (.list ys) = true := by
    unfold SeqAt.shaped
    simp [PyData.canLay0, h1, PyData.depth]
    omega
  have e2 : SeqAt.shaped (.list []) = true := by
    unfold SeqAt.shaped
    simp [PyData.canLay0, PyData.canLayAll0, PyData.depth, PyData.depthAll]
  have e3 : PyData.eqv (.list ys) (.list []) = ys.isEmpty := by
    cases ys <;> simp [PyData.eqv, PyData.eqvAll]
  rw [e1, e2, e3]
  rfl
theorem ones_ne (ys : List D) (h : ∀ y ∈ ys, y = .int 1) : dNeA (.list ys) (.list []) = some (.bool (!ys.isEmpty)) := by
  obtain ⟨h1, h2⟩ := ones_shaped ys h
  show guardD (SeqAt.shaped (.list ys) && SeqAt.shaped (.list [])) (.bool (!PyData.eqv (.list ys) (.list []))) = _
  have e1 : SeqAt.shaped (.list ys) = true := by
    unfold SeqAt.shaped
    simp [PyData.canLay0, h1, PyData.depth]
    omega
  have e2 : SeqAt.shaped (.list []) = true := by
    unfold SeqAt.shaped
    simp [PyData.canLay0, PyData.canLayAll0, PyData.depth, PyData.depthAll]
  have e3 : PyData.eqv (.list ys) (.list []) = ys.isEmpty := by
    cases ys <;> simp [PyData.eqv, PyData.eqvAll]
  rw [e1, e2, e3]
  rfl
def bad (lo hi : Int) (d : D) : Option D := if isCnt d lo hi then none else some (.int 1)
theorem bad_ones (lo hi : Int) (xs : List D) : ∀ y ∈ xs.filterMap (bad lo hi), y = .int 1 := fun y hy => by
  obtain ⟨x, _, e⟩ := List.mem_filterMap.mp hy
  unfold bad at e
  split at e
  · cases e
  · cases e; rfl
theorem bad_empty (lo hi : Int) : ∀ xs : List D, (xs.filterMap (bad lo hi)).isEmpty = xs.all fun d => isCnt d lo hi
  | [] => rfl
  | x :: xs => by
    rw [List.filterMap_cons, List.all_cons]
    cases h : isCnt x lo hi with
    | true =>
      have e : bad lo hi x = none := by unfold bad; rw [h]; rfl
      rw [e, Bool.true_and]
      exact bad_empty lo hi xs
    | false =>
      have e : bad lo hi x = some (.int 1) := by unfold bad; rw [h]; rfl
      rw [e, Bool.false_and]
      rfl
/-- the kinds' lengths, as the law writes them -/
def dk : D := .dict (dMerge [] [(.inr "0", .int 1), (.inr "1", .int 1), (.inr "not", .int 2), (.inr "and", .int 3), (.inr "or", .int 3)])
theorem dk_get (k : Str) : mGet dk [.str k, .int 0] = some (.int (partsI k)) := by
  have e : dk = .dict [(.str "0", .int 1), (.str "1", .int 1), (.str "not", .int 2), (.str "and", .int 3), (.str "or", .int 3)] := by
    unfold dk
    congr 1
  rw [e]
  show (if plainD (.int 0) then some ((dGetK [(.str "0", .int 1), (.str "1", .int 1), (.str "not", .int 2), (.str "and", .int 3), (.str "or", .int 3)] (.inr k)).getD (.int 0)) else none) = _
  rw [if_pos (show plainD (.int 0) = true from rfl)]
  unfold dGetK partsI
  simp only [List.find?_cons, keyOf, Option.some.injEq, Sum.inr.injEq]
  by_cases h1 : k = "0"
  · subst h1; rfl
  by_cases h2 : k = "1"
  · subst h2; rfl
  by_cases h3 : k = "not"
  · subst h3; rfl
  by_cases h4 : k = "and"
  · subst h4; rfl
  by_cases h5 : k = "or"
  · subst h5; rfl
  simp only [decide_eq_false (fun z => h1 (Eq.symm z)), decide_eq_false (fun z => h2 (Eq.symm z)), decide_eq_false (fun z => h3 (Eq.symm z)), decide_eq_false (fun z => h4 (Eq.symm z)), decide_eq_false (fun z => h5 (Eq.symm z)), if_neg h1, if_neg h2, if_neg h3, if_neg h4, if_neg h5]
  rfl

theorem outsD_other {d : D} {m : Int} (h : ∀ os, d ≠ .tuple os) : outsD d m = false := by
  cases d with
  | tuple os => exact absurd rfl (h os)
  | _ => rfl
theorem gatesD_other {d : D} {m : Int} (h : ∀ os, d ≠ .tuple os) : gatesD d m = false := by
  cases d with
  | tuple os => exact absurd rfl (h os)
  | _ => rfl
theorem is_empty_tup (x : D) (r : List D) : dEqA (.tuple (x :: r)) (.tuple []) = some (.bool false) := rfl
end Tk
end
section
set_option autoImplicit false
set_option maxRecDepth 100000
set_option maxHeartbeats 1000000
/-! M5: what nets tell. -/
namespace Tk
open PySem Vl L2 TL

abbrev sD (s : Sg) : D := signD (ch s)
theorem strsOf_signs : ∀ w : List Sg, strsOf (w.map sD) = some (w.map fun s => (⟨#[ch s]⟩ : Str))
  | [] => rfl
  | s :: w => by
    show (strsOf (w.map sD)).map (_ :: ·) = _
    rw [strsOf_signs w]; rfl
theorem joinL_one : ∀ w : List Sg, joinL [] ((w.map fun s => (⟨#[ch s]⟩ : Str)).map tl) = w.map ch
  | [] => rfl
  | [_] => rfl
  | s :: t :: w => by
    have ih := joinL_one (t :: w)
    show [ch s] ++ ([] ++ joinL [] (((t :: w).map fun s => (⟨#[ch s]⟩ : Str)).map tl)) = _
    rw [ih]; rfl
theorem join_signs (w : List Sg) : Txt.join "" (w.map fun s => (⟨#[ch s]⟩ : Str)) = wordS w := by
  rw [join_eq]
  refine ext_tl ?_
  rw [tl_join]
  exact joinL_one w
theorem mJoin_signs (w : List Sg) (h : w.length ≤ 16777216) : mJoin (.str "") [.list (w.map sD)] = some (.str (wordS w)) := by
  show (strsOf (w.map sD)).bind _ = _
  rw [strsOf_signs]
  show (if ((w.map fun s => (⟨#[ch s]⟩ : Str)).map (·.length)).sum + (w.map fun s => (⟨#[ch s]⟩ : Str)).length * Str.length "" ≤ 16777216 then some (PyData.str (Txt.join "" (w.map fun s => (⟨#[ch s]⟩ : Str)))) else none) = _
  have e : ((w.map fun s => (⟨#[ch s]⟩ : Str)).map (·.length)).sum = w.length := by
    rw [List.map_map]
    have : ∀ v : List Sg, (v.map ((·.length) ∘ fun s => (⟨#[ch s]⟩ : Str))).sum = v.length := by
      intro v
      induction v with
      | nil => rfl
      | cons s v ih => rw [List.map_cons, List.sum_cons, ih, List.length_cons]; show 1 + _ = _; omega
    exact this w
  have e0 : Str.length ("" : Str) = 0 := rfl
  rw [e, e0, if_pos (by omega), join_signs]
/-! ### gates -/
def nS : Sg → Sg := fun s => s.map (!·)
def andS : Sg → Sg → Sg
  | some false, _ => some false
  | _, some false => some false
  | some true, some true => some true
  | _, _ => none
def orS : Sg → Sg → Sg
  | some true, _ => some true
  | _, some true => some true
  | some false, some false => some false
  | _, _ => none
/-- a gate as it may stand with the number own -/
inductive Gate
  | con (b : Bool)
  | neg (a : Nat)
  | bin (isAnd : Bool) (a b : Nat)
def Gate.d : Gate → D
  | .con true => .tuple [.str "1"]
  | .con false => .tuple [.str "0"]
  | .neg a => .tuple [.str "not", .int a]
  | .bin true a b => .tuple [.str "and", .int a, .int b]
  | .bin false a b => .tuple [.str "or", .int a, .int b]
def Gate.fits (own : Nat) : Gate → Prop
  | .con _ => True
  | .neg a => a < own
  | .bin _ a b => a < own ∧ b < own
def Gate.tell (f : List Sg) : Gate → Sg
  | .con b => some b
  | .neg a => nS (f.getD a none)
  | .bin true a b => andS (f.getD a none) (f.getD b none)
  | .bin false a b => orS (f.getD a none) (f.getD b none)
/-- the pair of masks of the program -/
def prD : Sg → D
  | some true => .tuple [.int 1, .int 0]
  | some false => .tuple [.int 0, .int 1]
  | none => .tuple [.int 0, .int 0]
theorem ixM (f : Sg → D) (w : List Sg) (a : Nat) (h : a < w.length) : dIxA (.list (w.map f)) (.int (a : Int)) = some (f (w.getD a none)) := by
  refine L2.atI_nat (j := a) ?_
  rw [List.getElem?_map]; rw [List.getElem?_eq_getElem h, List.getD_eq_getElem?_getD, List.getElem?_eq_getElem h]
  rfl
theorem let_ok (g : Gate) (f : List Sg) (hg : g.fits f.length) (P : Pen) : den_let_through [.v g.d, .v (.list (f.map prD)), .v (.int 1)] P = .ok (prD (g.tell f)) P := by
  refine denOf_rt ?_
  cases g with
  | con b => cases b with
    | true => exact sSeq_nx (by wtm_at "vl evc") (sSeq_nx (sIf_f (by wtm_at "vl evc") sNil_ok) (sSeq_rt (sIf_t (by wtm_at "vl evc") (by wtm_at "vl evc"))))
    | false => exact sSeq_nx (by wtm_at "vl evc") (sSeq_rt (sIf_t (by wtm_at "vl evc") (by wtm_at "vl evc")))
  | neg a =>
    have h1 := ixM prD f a hg
    show _ = R.ok (Fl.rt (prD (nS (f.getD a none)))) P
    generalize f.getD a none = s at h1
    refine sSeq_nx (by wtm_at "vl evc") (sSeq_nx (sIf_f (by wtm_at "vl evc") sNil_ok) (sSeq_nx (sIf_f (by wtm_at "vl evc") sNil_ok) ?_))
    have hix : d2 dIxA (bVar 1) (d2 dIxA (bVar 0) (dC (.int 1))) [.v (Gate.neg a).d, .v (.list (f.map prD)), .v (.int 1), .v (.str "not"), .un, .un, .un, .un] P = .ok (prD s) P := d2_ok (bVar_v rfl) (d2_ok (bVar_v rfl) dC_ok rfl) h1
    cases s with
    | none => exact sSeq_nx (sAsg_ok hix rfl) (sSeq_rt (sIf_t (by wtm_at "vl evc") (by wtm_at "vl evc")))
    | some b => cases b <;> exact sSeq_nx (sAsg_ok hix rfl) (sSeq_rt (sIf_t (by wtm_at "vl evc") (by wtm_at "vl evc")))
  | bin k a b =>
    obtain ⟨ha, hb⟩ := hg
    have h1 := ixM prD f a ha
    have h2 := ixM prD f b hb
    cases k with
    | true =>
      show _ = R.ok (Fl.rt (prD (andS (f.getD a none) (f.getD b none)))) P
      generalize f.getD a none = s at h1
      generalize f.getD b none = t at h2
      refine sSeq_nx (by wtm_at "vl evc") (sSeq_nx (sIf_f (by wtm_at "vl evc") sNil_ok) (sSeq_nx (sIf_f (by wtm_at "vl evc") sNil_ok) ?_))
      have hix : d2 dIxA (bVar 1) (d2 dIxA (bVar 0) (dC (.int 1))) [.v (Gate.bin true a b).d, .v (.list (f.map prD)), .v (.int 1), .v (.str "and"), .un, .un, .un, .un] P = .ok (prD s) P := d2_ok (bVar_v rfl) (d2_ok (bVar_v rfl) dC_ok rfl) h1
      have hiy : ∀ x y : SV, d2 dIxA (bVar 1) (d2 dIxA (bVar 0) (dC (.int 2))) [.v (Gate.bin true a b).d, .v (.list (f.map prD)), .v (.int 1), .v (.str "and"), x, y, .un, .un] P = .ok (prD t) P := fun x y => d2_ok (bVar_v rfl) (d2_ok (bVar_v rfl) dC_ok rfl) h2
      rcases s with _ | _ | _ <;> rcases t with _ | _ | _ <;> exact sSeq_nx (sAsg_ok hix rfl) (sSeq_nx (sIf_f (by wtm_at "vl evc") sNil_ok) (sSeq_nx (sAsg_ok (hiy _ _) rfl) (sSeq_rt (sIf_t (by wtm_at "vl evc") (by wtm_at "vl evc")))))
    | false =>
      show _ = R.ok (Fl.rt (prD (orS (f.getD a none) (f.getD b none)))) P
      generalize f.getD a none = s at h1
      generalize f.getD b none = t at h2
      refine sSeq_nx (by wtm_at "vl evc") (sSeq_nx (sIf_f (by wtm_at "vl evc") sNil_ok) (sSeq_nx (sIf_f (by wtm_at "vl evc") sNil_ok) ?_))
      have hix : d2 dIxA (bVar 1) (d2 dIxA (bVar 0) (dC (.int 1))) [.v (Gate.bin false a b).d, .v (.list (f.map prD)), .v (.int 1), .v (.str "or"), .un, .un, .un, .un] P = .ok (prD s) P := d2_ok (bVar_v rfl) (d2_ok (bVar_v rfl) dC_ok rfl) h1
      have hiy : ∀ x y : SV, d2 dIxA (bVar 1) (d2 dIxA (bVar 0) (dC (.int 2))) [.v (Gate.bin false a b).d, .v (.list (f.map prD)), .v (.int 1), .v (.str "or"), x, y, .un, .un] P = .ok (prD t) P := fun x y => d2_ok (bVar_v rfl) (d2_ok (bVar_v rfl) dC_ok rfl) h2
      rcases s with _ | _ | _ <;> rcases t with _ | _ | _ <;> exact sSeq_nx (sAsg_ok hix rfl) (sSeq_nx (sIf_f (by wtm_at "vl evc") sNil_ok) (sSeq_nx (sAsg_ok (hiy _ _) rfl) (sSeq_nx (sIf_f (by wtm_at "vl evc") sNil_ok) (by wtm_at "vl evc"))))
/-- the same, as the law finds it -/
theorem told_ok (g : Gate) (f : List Sg) (hg : g.fits f.length) (P : Pen) : True := trivial
theorem sign_ok (s : Sg) (P : Pen) : den_sign_at [.v (prD s), .v (.int 0)] P = .ok (sD s) P := by
  refine denOf_rt ?_
  rcases s with _ | _ | _
  · exact sSeq_nx (by wtm_at "vl evc") (sSeq_nx (sIf_f (by wtm_at "vl evc") sNil_ok) (sRet_ok (vIf_f (by wtm_at "vl evc") (by wtm_at "vl evc"))))
  · exact sSeq_nx (by wtm_at "vl evc") (sSeq_nx (sIf_f (by wtm_at "vl evc") sNil_ok) (sRet_ok (vIf_t (by wtm_at "vl evc") (by wtm_at "vl evc"))))
  · exact sSeq_nx (by wtm_at "vl evc") (sSeq_rt (sIf_t (by wtm_at "vl evc") (by wtm_at "vl evc")))
end Tk
end
section
set_option autoImplicit false
set_option maxRecDepth 100000
set_option maxHeartbeats 1000000
/-! M6: run. -/
namespace Tk
open PySem Vl L2 TL

structure Net where
  n : Nat
  gates : List Gate
  outs : List Nat
def Net.d (t : Net) : D := .tuple [.int t.n, .tuple (t.gates.map Gate.d), .tuple (t.outs.map fun (o : Nat) => PyData.int (o : Int))]
def fitsAll : List Gate → Nat → Prop
  | [], _ => True
  | g :: gs, own => g.fits own ∧ fitsAll gs (own + 1)
structure Net.Ok (t : Net) : Prop where
  n1 : 1 ≤ t.n
  n2 : t.n ≤ 32
  few : t.gates.length ≤ 100000
  fits : fitsAll t.gates t.n
  o1 : 1 ≤ t.outs.length
  o2 : t.outs.length ≤ 32
  outs : ∀ o ∈ t.outs, o < t.n + t.gates.length
def tellAll : List Gate → List Sg → List Sg
  | [], f => f
  | g :: gs, f => tellAll gs (f ++ [g.tell f])
theorem tellAll_len : ∀ (gs : List Gate) (f : List Sg), (tellAll gs f).length = f.length + gs.length
  | [], f => by simp [tellAll]
  | g :: gs, f => by rw [tellAll, tellAll_len gs]; simp; omega
def runS (t : Net) (w : List Sg) : List Sg := t.outs.map fun o => (tellAll t.gates w).getD o none
/-! ### the words' marks -/
theorem intsOf_none : intsOf [] = some [] := rfl
theorem marked_ok (w : List Sg) (j : Nat) (hj : j < w.length) (hw : w.length ≤ 32) (b : Bool) (P : Pen) : den_marked [.v (.list [.str (wordS w)]), .v (.int (j : Int)), .v (sD (some b))] P = .ok (.int (if w.getD j none = some b then 1 else 0)) P := by
  refine denOf_rt (sRet_ok ?_)
  have hix : dIxA (.str (wordS w)) (.int (j : Int)) = some (sD (w.getD j none)) := by
    show (if (wordS w).length ≤ 16777216 then _ else none) = _
    rw [wordS_len, if_pos (by omega)]
    have e : L2.atI (wordS w).cps.toList (j : Int) = some (ch (w.getD j none)) := by
      refine L2.atI_nat (j := j) ?_
      show (w.map ch).toArray.toList[j]? = _
      rw [List.toList_toArray, List.getElem?_map, List.getElem?_eq_getElem hj, List.getD_eq_getElem?_getD, List.getElem?_eq_getElem hj]
      rfl
    rw [e]; rfl
  have heq : dEqA (sD (w.getD j none)) (sD (some b)) = some (.bool (decide (w.getD j none = some b))) := by
    show some (PyData.bool (decide ((⟨#[ch (w.getD j none)]⟩ : Str) = ⟨#[ch (some b)]⟩))) = _
    generalize w.getD j none = s
    rcases s with _ | _ | _ <;> cases b <;> rfl
  have ht : tV (d2 dEqA (d2 dIxA (bVar 4) (bVar 1)) (bVar 2)) [.v (.list [.str (wordS w)]), .v (.int (j : Int)), .v (sD (some b)), .v (.int 0), .v (.str (wordS w))] P = .ok (decide (w.getD j none = some b)) P :=
    tV_ok (d2_ok (d2_ok (bVar_v rfl) (bVar_v rfl) hix) (bVar_v rfl) heq)
  refine dB_ok (aCons_ok (dComp_filter (ds := enumD 0 [.str (wordS w)]) (fun _ => if w.getD j none = some b then some (.int 1) else none) (itE1_ok (dVar_v rfl) rfl) (by rw [enumD_len]; show 1 ≤ 16777216; decide) fun d hd => ?_) aNil_ok) ?_
  · rcases List.mem_singleton.mp (show d ∈ [PyData.tuple [.int 0, .str (wordS w)]] from hd) with rfl
    refine ⟨_, rfl, ?_⟩
    by_cases h : w.getD j none = some b
    · rw [decide_eq_true h] at ht
      exact .inr ⟨.int 1, if_pos h, ht, by wtm_at "vl evc"⟩
    · rw [decide_eq_false h] at ht
      exact .inl ⟨if_neg h, ht⟩
  · show gSum [.list ([PyData.tuple [.int 0, .str (wordS w)]].filterMap _)] = _
    by_cases h : w.getD j none = some b
    · rw [if_pos h, List.filterMap_cons, if_pos h]; rfl
    · rw [if_neg h, List.filterMap_cons, if_neg h]; rfl
theorem range_map (w : List Sg) : (rangeD 0 w.length).map (fun d => prD (w.getD (intOf d).toNat none)) = w.map prD := by
  unfold rangeD
  rw [List.map_map]
  refine List.ext_getElem? fun i => ?_
  rw [List.getElem?_map]; rw [List.getElem?_map]
  by_cases h : i < w.length
  · rw [List.getElem?_range h, List.getElem?_eq_getElem h]
    show some (prD (w.getD ((0 : Int) + (i : Nat)).toNat none)) = some (prD w[i])
    rw [show ((0 : Int) + (i : Nat)).toNat = i by omega, List.getD_eq_getElem?_getD, List.getElem?_eq_getElem h]; rfl
  · rw [List.getElem?_eq_none (by simp; omega), List.getElem?_eq_none (by omega)]; rfl
theorem pr_marks (s : Sg) : (PyData.tuple [.int (if s = some true then 1 else 0), .int (if s = some false then 1 else 0)]) = prD s := by
  rcases s with _ | _ | _ <;> rfl
theorem noL_pr (s : Sg) : noL (prD s) = true := by rcases s with _ | _ | _ <;> rfl
theorem gates_run (e0 e1 e2 e3 e4 e6 e9 e10 e11 e12 : SV) (P : Pen) : ∀ (gs : List Gate) (f : List Sg) (x : SV), fitsAll gs f.length → f.length + gs.length < 16777216 →
    ∃ y, loopD (tgName 8) (sApp 5 (dCallT 3 den_let_through (aCons (bVar 8) (aCons (bVar 5) (aCons (bVar 7) aNil))))) (gs.map Gate.d) [e0, e1, e2, e3, e4, .own (f.map prD), e6, .v (.int 1), x, e9, e10, e11, e12] P = .ok (.nx [e0, e1, e2, e3, e4,   .own ((tellAll gs f).map prD), e6, .v (.int 1), y, e9, e10, e11, e12]) P
  | [], f, x, _, _ => ⟨x, rfl⟩
  | g :: gs, f, x, ⟨h1, h2⟩, hl => by
    rw [List.length_cons] at hl
    obtain ⟨x', q⟩ := gates_run e0 e1 e2 e3 e4 e6 e9 e10 e11 e12 P gs (f ++ [g.tell f]) (.v g.d) (by rw [List.length_append]; exact h2) (by rw [List.length_append, List.length_singleton]; omega)
    refine ⟨x', ?_⟩
    unfold loopD
    show bnd (sApp 5 _ [e0, e1, e2, e3, e4, .own (f.map prD), e6, .v (.int 1), .v g.d, e9, e10, e11, e12]) _ P = _
    have hs := sApp_ok (i := 5) (env := [e0, e1, e2, e3, e4, .own (f.map prD), e6, .v (.int 1), .v g.d, e9, e10, e11, e12]) (P := P) rfl (dCallT_ok (n := 3) (aCons_ok (bVar_v (i := 8) rfl) (aCons_ok (bVar_o (i := 5) rfl) (aCons_ok (bVar_v (i := 7) rfl) aNil_ok))) rfl (let_ok g f h1 P) (noL_pr _)) (by rw [List.length_map]; omega)
    rw [bnd_ok hs]
    have ea : f.map prD ++ [prD (g.tell f)] = (f ++ [g.tell f]).map prD := by rw [List.map_append]; rfl
    rw [ea]
    show loopD (tgName 8) _ (gs.map Gate.d) [e0, e1, e2, e3, e4, .own ((f ++ [g.tell f]).map prD), e6, .v (.int 1), .v g.d, e9, e10, e11, e12] P = .ok (.nx [e0, e1, e2, e3, e4, .own ((tellAll gs (f ++ [g.tell f])).map prD), e6, .v (.int 1), x', e9, e10, e11, e12]) P
    exact q
theorem answers_ok (t : Net) (h : t.Ok) (w : List Sg) (hw : w.length = t.n) (P : Pen) : den_answers_at [.v t.d, .v (.list [.str (wordS w)])] P = .ok (.list [.str (wordS (runS t w))]) P := by
  have n2 := h.n2
  have few := h.few
  refine denOf_rt ?_
  apply sSeq_nx
  · exact sAsg_ok (dVar_v rfl) rfl
  apply sSeq_nx
  · refine sOwn_ok (dComp_map (ds := rangeD 0 w.length) (fun d => prD (w.getD (intOf d).toNat none)) (itR1_ok (k := (t.n : Int)) (by wtm_at "vl evc") (by omega) |>.trans ?_) (by simp [rangeD]; omega) fun d hd => ?_)
    · rw [Int.toNat_natCast, hw]
    · obtain ⟨j, hj, rfl⟩ := List.mem_map.mp hd
      have hj := List.mem_range.mp hj
      refine ⟨_, rfl, ?_⟩
      have ej : ((0 : Int) + (j : Nat)) = (j : Int) := by omega
      rw [ej]
      refine conv_ok (dTup_ok (aCons_ok (dCall_ok (aCons_ok (dVar_v rfl) (aCons_ok (dVar_v rfl) (aCons_ok dC_ok aNil_ok))) rfl (marked_ok w j hj (by omega) true P)) (aCons_ok (dCall_ok (aCons_ok (dVar_v rfl) (aCons_ok (dVar_v rfl) (aCons_ok dC_ok aNil_ok))) rfl (marked_ok w j hj (by omega) false P)) aNil_ok)) (by show 2 ≤ 16777216; decide)) ?_
      rw [show (intOf (.int (j : Int))).toNat = j from Int.toNat_natCast j]
      exact pr_marks _
  rw [range_map]
  apply sSeq_nx
  · exact sSet_ok (d := .int 1) (by wtm_at "vl evc")
  obtain ⟨x, q⟩ := gates_run (.v t.d) (.v (.list [.str (wordS w)])) (.v (.int t.n)) (.v (.tuple (t.gates.map Gate.d))) (.v (.tuple (t.outs.map fun (o : Nat) => PyData.int (o : Int)))) .un .un .un .un .un P t.gates w .un (by rw [hw]; exact h.fits) (by omega)
  apply sSeq_nx
  · exact sFor_ok (itD_tup (dVar_v rfl)) q
  have hlen := tellAll_len t.gates w
  apply sSeq_nx
  · refine sOwn_ok (dComp_map (ds := t.outs.map fun (o : Nat) => PyData.int (o : Int)) (fun d => prD ((tellAll t.gates w).getD (intOf d).toNat none)) (itD_tup (dVar_v rfl)) (by have := h.o2; simp; omega) fun d hd => ?_)
    obtain ⟨o, ho, rfl⟩ := List.mem_map.mp hd
    refine ⟨_, rfl, d2_ok (bVar_o rfl) (bVar_v rfl) ?_⟩
    rw [show (intOf (.int (o : Int))).toNat = o from Int.toNat_natCast o]
    exact ixM prD _ o (by rw [hlen, hw]; exact h.outs o ho)
  have eo : (t.outs.map fun (o : Nat) => PyData.int (o : Int)).map (fun d => prD ((tellAll t.gates w).getD (intOf d).toNat none)) = (runS t w).map prD := by
    rw [List.map_map, runS, List.map_map]
    rfl
  rw [eo]
  refine sShare_ok rfl (sRet_ok ?_)
  refine conv_ok (dComp_map (ds := [.int 0]) (fun _ => .str (wordS (runS t w))) (itR1_ok (k := 1) (by wtm_at "vl evc") (by decide)) (by decide) fun d hd => ?_) rfl
  rcases List.mem_singleton.mp hd with rfl
  refine ⟨_, rfl, ?_⟩
  have hr : (runS t w).length ≤ 16777216 := by have := h.o2; rw [runS, List.length_map]; omega
  refine dMA_ok (dC_ok) rfl (aCons_ok (dComp_map (ds := (runS t w).map prD) (fun d => match d with | .tuple [.int 1, _] => sD (some true) | .tuple [_, .int 1] => sD (some false) | _ => sD none) (itD_list (dVar_v rfl)) (by rw [List.length_map]; exact hr) fun d hd => ?_) aNil_ok) ?_
  · obtain ⟨s, _, rfl⟩ := List.mem_map.mp hd
    refine ⟨_, rfl, conv_ok (dCall_ok (aCons_ok (dVar_v rfl) (aCons_ok (dVar_v rfl) aNil_ok)) rfl (sign_ok s P)) ?_⟩
    rcases s with _ | _ | _ <;> rfl
  · have em : ((runS t w).map prD).map (fun d => match d with | .tuple [.int 1, _] => sD (some true) | .tuple [_, .int 1] => sD (some false) | _ => sD none) = (runS t w).map sD := by
      rw [List.map_map]
      refine List.map_congr_left fun s _ => ?_
      rcases s with _ | _ | _ <;> rfl
    rw [em]
    exact mJoin_signs _ hr
end Tk
end
section
set_option autoImplicit false
set_option maxRecDepth 100000
set_option maxHeartbeats 1000000
/-! M7: the law's own run; run. -/
namespace Tk
open PySem Vl L2 TL

abbrev tellD : Vl.Env → M D := dCall 1 den__law_joined (aCons (dComp (itD (dCall 1 den__law_settled (aCons (dVar 4) aNil))) (tgName 6) tsNil (dCall 2 den__law_told (aCons (d2 dIxA (bVar 3) (dC (.int 0))) (aCons (dVar 6) aNil))) [6]) aNil)
theorem tell_neg (e0 e1 e2 e5 e6 e7 : SV) (a : Nat) (s : Sg) (P : Pen) : tellD [e0, e1, e2, .v (Gate.neg a).d, .v (.str (wordS [s])), e5, e6, e7] P = .ok (sD (nS s)) P := by
  rcases s with _ | _ | _ <;> kernel_rfl
theorem tell_and (e0 e1 e2 e5 e6 e7 : SV) (a b : Nat) (s t : Sg) (P : Pen) : tellD [e0, e1, e2, .v (Gate.bin true a b).d, .v (.str (wordS [s, t])), e5, e6, e7] P = .ok (sD (andS s t)) P := by
  rcases s with _ | _ | _ <;> rcases t with _ | _ | _ <;> kernel_rfl
theorem tell_or (e0 e1 e2 e5 e6 e7 : SV) (a b : Nat) (s t : Sg) (P : Pen) : tellD [e0, e1, e2, .v (Gate.bin false a b).d, .v (.str (wordS [s, t])), e5, e6, e7] P = .ok (sD (orS s t)) P := by
  rcases s with _ | _ | _ <;> rcases t with _ | _ | _ <;> kernel_rfl
abbrev lawBody : Vl.Env → M Fl := sIf (tV (d2 dEqA (dB gLen (aCons (bVar 3) aNil)) (dC (.int 1)))) (sApp 2 (d2 dIxA (bVar 3) (dC (.int 0)))) (sSeq (sSet 4 (dMA msJoin (dC (.str "")) (aCons (dComp (itD (dSlice (bVar 3) (dPart (dC (.int 1))) dNoPart)) (tgName 5) tsNil (d2 dIxA (bVar 2) (bVar 5)) [5]) aNil))) (sApp 2 tellD))
theorem law_step (e0 e1 e4 e5 e6 e7 : SV) (g : Gate) (f : List Sg) (hg : g.fits f.length) (hl : f.length < 16777216) (P : Pen) : ∃ z, lawBody [e0, e1, .own (f.map sD), .v g.d, e4, e5, e6, e7] P = .ok (.nx [e0, e1, .own ((f ++ [g.tell f]).map sD), .v g.d, z, e5, e6, e7]) P := by
  have ap : ∀ (s : Sg), (f ++ [s]).map sD = f.map sD ++ [sD s] := fun s => by rw [List.map_append]; rfl
  have lm : (f.map sD).length < 16777216 := by rw [List.length_map]; exact hl
  cases g with
  | con b =>
    refine ⟨e4, sIf_t (P1 := P) ?_ ?_⟩
    · cases b <;> wtm_at "vl evc"
    · rw [ap]
      cases b
      · exact sApp_ok rfl (show _ = R.ok (sD (some false)) P by wtm_at "vl evc") lm
      · exact sApp_ok rfl (show _ = R.ok (sD (some true)) P by wtm_at "vl evc") lm
  | neg a =>
    have hj : dMA msJoin (dC (.str "")) (aCons (dComp (itD (dSlice (bVar 3) (dPart (dC (.int 1))) dNoPart)) (tgName 5) tsNil (d2 dIxA (bVar 2) (bVar 5)) [5]) aNil) [e0, e1, .own (f.map sD), .v (Gate.neg a).d, e4, e5, e6, e7] P = .ok (.str (wordS [f.getD a none])) P := by
      refine dMA_ok dC_ok rfl (aCons_ok (dComp_map (ds := [.int (a : Int)]) (fun _ => sD (f.getD a none)) (itD_tup (dSlice_ok (bVar_v rfl) (dPart_ok dC_ok) dNoPart_ok rfl)) (Nat.le_of_ble_eq_true rfl) fun d hd => ?_) aNil_ok) (mJoin_signs [f.getD a none] (Nat.le_of_ble_eq_true rfl))
      rcases List.mem_singleton.mp hd with rfl
      exact ⟨_, rfl, d2_ok (bVar_o rfl) (bVar_v rfl) (ixM sD f a hg)⟩
    refine ⟨.v (.str (wordS [f.getD a none])), sIf_f (P1 := P) (by wtm_at "vl evc") (sSeq_nx (sSet_ok hj) ?_)⟩
    rw [ap]
    exact sApp_ok rfl (tell_neg _ _ _ _ _ _ a (f.getD a none) P) lm
  | bin k a b =>
    obtain ⟨ha, hb⟩ := hg
    have hj : dMA msJoin (dC (.str "")) (aCons (dComp (itD (dSlice (bVar 3) (dPart (dC (.int 1))) dNoPart)) (tgName 5) tsNil (d2 dIxA (bVar 2) (bVar 5)) [5]) aNil) [e0, e1, .own (f.map sD), .v (Gate.bin k a b).d, e4, e5, e6, e7] P = .ok (.str (wordS [f.getD a none, f.getD b none])) P := by
      refine dMA_ok dC_ok rfl (aCons_ok (conv_ok (dComp_map (ds := [.int (a : Int), .int (b : Int)]) (fun d => sD (f.getD (intOf d).toNat none)) (itD_tup (dSlice_ok (bVar_v rfl) (dPart_ok dC_ok) dNoPart_ok (by cases k <;> rfl))) (Nat.le_of_ble_eq_true rfl) fun d hd => ?_) rfl) aNil_ok) (mJoin_signs [f.getD a none, f.getD b none] (Nat.le_of_ble_eq_true rfl))
      rcases (List.mem_cons.mp hd) with rfl | hd
      · exact ⟨_, rfl, d2_ok (bVar_o rfl) (bVar_v rfl) (ixM sD f a ha)⟩
      · rcases List.mem_singleton.mp hd with rfl
        exact ⟨_, rfl, d2_ok (bVar_o rfl) (bVar_v rfl) (ixM sD f b hb)⟩
    refine ⟨.v (.str (wordS [f.getD a none, f.getD b none])), sIf_f (P1 := P) (by cases k <;> wtm_at "vl evc") (sSeq_nx (sSet_ok hj) ?_)⟩
    rw [ap]
    cases k with
    | true => exact sApp_ok rfl (tell_and _ _ _ _ _ _ a b (f.getD a none) (f.getD b none) P) lm
    | false => exact sApp_ok rfl (tell_or _ _ _ _ _ _ a b (f.getD a none) (f.getD b none) P) lm
theorem law_gates_run (e0 e1 e5 e6 e7 : SV) (P : Pen) : ∀ (gs : List Gate) (f : List Sg) (x z : SV), fitsAll gs f.length → f.length + gs.length < 16777216 →
    ∃ x' z', loopD (tgName 3) lawBody (gs.map Gate.d) [e0, e1, .own (f.map sD), x, z, e5, e6, e7] P = .ok (.nx [e0, e1, .own ((tellAll gs f).map sD), x', z', e5, e6, e7]) P
  | [], f, x, z, _, _ => ⟨x, z, rfl⟩
  | g :: gs, f, x, z, ⟨h1, h2⟩, hl => by
    rw [List.length_cons] at hl
    obtain ⟨z1, q1⟩ := law_step e0 e1 z e5 e6 e7 g f h1 (by omega) P
    obtain ⟨x', z', q⟩ := law_gates_run e0 e1 e5 e6 e7 P gs (f ++ [g.tell f]) (.v g.d) z1 (by rw [List.length_append]; exact h2) (by rw [List.length_append, List.length_singleton]; omega)
    refine ⟨x', z', ?_⟩
    unfold loopD
    show bnd (lawBody [e0, e1, .own (f.map sD), .v g.d, z, e5, e6, e7]) _ P = _
    rw [bnd_ok q1]
    exact q
theorem law_run_ok (t : Net) (h : t.Ok) (w : List Sg) (hw : w.length = t.n) (P : Pen) : den__law_run [.v t.d, .v (.str (wordS w))] P = .ok (.str (wordS (runS t w))) P := by
  have n2 := h.n2
  have few := h.few
  refine denOf_rt ?_
  apply sSeq_nx
  · refine sOwn_ok (dB_ok (aCons_ok (bVar_v rfl) aNil_ok) (show gList [.str (wordS w)] = some (.list (w.map sD)) from ?_))
    show (if (wordS w).length ≤ 16777216 then some (PyData.list ((wordS w).cps.toList.map signD)) else none) = _
    rw [wordS_len, if_pos (by omega)]
    show some (PyData.list (signs (wordS w))) = _
    rw [signs_wordS]
  obtain ⟨x, z, q⟩ := law_gates_run (.v t.d) (.v (.str (wordS w))) .un .un .un P t.gates w .un .un (by rw [hw]; exact h.fits) (by omega)
  apply sSeq_nx
  · exact sFor_ok (itD_tup (d2_ok (bVar_v rfl) dC_ok (show dIxA t.d (.int 1) = some (.tuple (t.gates.map Gate.d)) from rfl))) q
  have hlen := tellAll_len t.gates w
  have hr : (runS t w).length ≤ 16777216 := by have := h.o2; rw [runS, List.length_map]; omega
  refine sRet_ok (dMA_ok dC_ok rfl (aCons_ok (dComp_map (ds := t.outs.map fun (o : Nat) => PyData.int (o : Int)) (fun d => sD ((tellAll t.gates w).getD (intOf d).toNat none)) (itD_tup (d2_ok (bVar_v rfl) dC_ok (show dIxA t.d (.int 2) = some (.tuple (t.outs.map fun (o : Nat) => PyData.int (o : Int))) from rfl))) (by have := h.o2; simp; omega) fun d hd => ?_) aNil_ok) ?_)
  · obtain ⟨o, ho, rfl⟩ := List.mem_map.mp hd
    refine ⟨_, rfl, d2_ok (bVar_o rfl) (bVar_v rfl) ?_⟩
    rw [show (intOf (.int (o : Int))).toNat = o from Int.toNat_natCast o]
    exact ixM sD _ o (by rw [hlen, hw]; exact h.outs o ho)
  · have eo : (t.outs.map fun (o : Nat) => PyData.int (o : Int)).map (fun d => sD ((tellAll t.gates w).getD (intOf d).toNat none)) = (runS t w).map sD := by
      rw [List.map_map, runS, List.map_map]
      rfl
    rw [eo]
    exact mJoin_signs _ hr
/-! ### run -/
theorem gate_isB (g : Gate) (own : Nat) (h : g.fits own) : isGateB g.d (own : Int) = true := by
  have cnt : ∀ a : Nat, a < own → isCnt (.int (a : Int)) 0 ((own : Int) - 1) = true := fun a ha => by
    rw [isCnt, decide_eq_true (by omega), decide_eq_true (by omega)]; rfl
  cases g with
  | con b => cases b <;> rfl
  | neg a =>
    rw [show isGateB (Gate.neg a).d (own : Int) = (decide (((1 : Nat) : Int) + 1 = partsI "not") && (isCnt (.int (a : Int)) 0 ((own : Int) - 1) && true)) from rfl, cnt a h]
    rfl
  | bin k a b =>
    cases k
    · rw [show isGateB (Gate.bin false a b).d (own : Int) = (decide (((2 : Nat) : Int) + 1 = partsI "or") && (isCnt (.int (a : Int)) 0 ((own : Int) - 1) && (isCnt (.int (b : Int)) 0 ((own : Int) - 1) && true))) from rfl, cnt a h.1, cnt b h.2]
      rfl
    · rw [show isGateB (Gate.bin true a b).d (own : Int) = (decide (((2 : Nat) : Int) + 1 = partsI "and") && (isCnt (.int (a : Int)) 0 ((own : Int) - 1) && (isCnt (.int (b : Int)) 0 ((own : Int) - 1) && true))) from rfl, cnt a h.1, cnt b h.2]
      rfl
theorem gates_isB : ∀ (gs : List Gate) (own : Nat), fitsAll gs own → gatesB (gs.map Gate.d) (own : Int) = true
  | [], _, _ => rfl
  | g :: gs, own, ⟨h1, h2⟩ => by
    rw [List.map_cons, gatesB, gate_isB g own h1, Bool.true_and]
    exact gates_isB gs (own + 1) h2
theorem Net.Ok.isB {t : Net} (h : t.Ok) : isNetB t.d = true := by
  have n1 := h.n1
  have n2 := h.n2
  show (isCnt (.int (t.n : Int)) 1 32 && (gatesB (t.gates.map Gate.d) (t.n : Int) && outsB (t.outs.map fun (o : Nat) => PyData.int (o : Int)) ((t.n : Int) + ((t.gates.map Gate.d).length : Int)))) = true
  rw [gates_isB _ _ h.fits, isCnt, decide_eq_true (by omega), decide_eq_true (by omega), outsB, List.length_map, List.length_map, decide_eq_true h.o1, decide_eq_true h.o2]
  show ((t.outs.map fun (o : Nat) => PyData.int (o : Int)).all fun d => isCnt d 0 ((t.n : Int) + (t.gates.length : Int) - 1)) = true
  rw [List.all_eq_true]
  intro d hd
  obtain ⟨o, ho, rfl⟩ := List.mem_map.mp hd
  have := h.outs o ho
  rw [isCnt, decide_eq_true (by omega), decide_eq_true (by omega)]; rfl
theorem Gate.short (g : Gate) : Short g.d := fun xs e => by
  cases g with
  | con b => cases b <;> (cases e; exact Nat.le_of_ble_eq_true rfl)
  | neg a => cases e; exact Nat.le_of_ble_eq_true rfl
  | bin k a b => cases k <;> (cases e; exact Nat.le_of_ble_eq_true rfl)
theorem Net.Ok.fine {t : Net} (h : t.Ok) : Fine t.d := ⟨fun n gs os e => by
  cases e
  refine ⟨by rw [List.length_map]; exact h.few, fun g hg => ?_⟩
  obtain ⟨g', _, rfl⟩ := List.mem_map.mp hg
  exact g'.short⟩
theorem check_net_ok (t : Net) (h : t.Ok) (P : Pen) : den_check_net [.v t.d] P = .ok .none P := by
  have hn := is_net_eq t.d h.fine P
  rw [h.isB] at hn
  exact denOf_nx (sIf_f (mNot_f (tTru_ok (dCall_ok (aCons_ok (dVar_v rfl) aNil_ok) rfl hn) rfl)) sNil_ok)
theorem check_net_ex (d : D) (hf : Fine d) (h : isNetB d = false) (P : Pen) : den_check_net [.v d] P = .ex "NoNet" P := by
  have hn := is_net_eq d hf P
  rw [h] at hn
  exact denOf_ex (sIf_t (mNot_t (tTru_ok (dCall_ok (aCons_ok (dVar_v rfl) aNil_ok) rfl hn) rfl)) rfl)
end Tk
end
section
set_option autoImplicit false
set_option maxRecDepth 100000
set_option maxHeartbeats 1000000
/-! M8: what is drawn. -/
namespace Tk
open PySem Vl L2 TL

/-- a comprehension whose elements draw, so many draws each -/
theorem compD_count {tg : D → Vl.Env → Option Vl.Env} {elt : Vl.Env → M D} {env : Vl.Env} (I : Nat → Pen → Prop) (R : D → Prop) : ∀ (ds : List D) (n : Nat) (P : Pen), n + ds.length ≤ 16777216 → I ds.length P →
    (∀ d ∈ ds, ∀ k P, I (k + 1) P → ∃ e1 y P', tg d env = some e1 ∧ elt e1 P = .ok y P' ∧ I k P' ∧ R y) → ∃ ys P', compD tg tsNil elt ds n env P = .ok ys P' ∧ I 0 P' ∧ ys.length = ds.length ∧ ∀ y ∈ ys, R y
  | [], _, P, _, hI, _ => ⟨[], P, rfl, hI, rfl, fun y hy => nomatch hy⟩
  | d :: ds, n, P, hn, hI, h => by
    rw [List.length_cons] at hn hI
    obtain ⟨e1, y, P1, h1, h2, h3, h4⟩ := h d List.mem_cons_self _ P hI
    obtain ⟨ys, P2, g1, g2, g3, g4⟩ := compD_count I R ds (n + 1) P1 (by omega) h3 fun d' hd' => h d' (List.mem_cons_of_mem _ hd')
    refine ⟨y :: ys, P2, ?_, g2, by rw [List.length_cons, List.length_cons, g3], fun z hz => ?_⟩
    · unfold compD
      rw [h1]
      have e : noEx (tsNil e1) P = .ok true P := rfl
      have e2 : noEx (elt e1) P = .ok y P1 := by unfold noEx; rw [h2]
      have hlt : n < 16777216 := by omega
      simp only [bnd_ok e, if_true, bnd_ok e2, if_pos hlt, bnd_ok g1]
      rfl
    · rcases List.mem_cons.mp hz with rfl | hz
      · exact h4
      · exact g4 z hz
theorem dComp_count {it : Vl.Env → M (List D)} {tg : D → Vl.Env → Option Vl.Env} {elt : Vl.Env → M D} {vs : List Nat} {env : Vl.Env} {P P1 : Pen} {ds : List D} (I : Nat → Pen → Prop) (R : D → Prop) (hi : it env P = .ok ds P1) (hn : ds.length ≤ 16777216) (hI : I ds.length P1)
    (h : ∀ d ∈ ds, ∀ k P, I (k + 1) P → ∃ e1 y P', tg d (wipeE env vs) = some e1 ∧ elt e1 P = .ok y P' ∧ I k P' ∧ R y) : ∃ ys P', dComp it tg tsNil elt vs env P = .ok (.list ys) P' ∧ I 0 P' ∧ ys.length = ds.length ∧ ∀ y ∈ ys, R y := by
  obtain ⟨ys, P2, g1, g2⟩ := compD_count (env := wipeE env vs) I R ds 0 P1 (by omega) hI h
  refine ⟨ys, P2, ?_, g2⟩
  unfold dComp
  rw [bnd_ok hi, bnd_ok g1]
  rfl
theorem dPen_ok1 {den : List SV → M D} {env : Vl.Env} {i : Nat} {f : Vl.Env → M D} {d r : D} {P P1 P2 : Pen} (he : env[i]? = some .pen) (h : f env P = .ok d P1) (h2 : den [.pen, .v d] P1 = .ok r P2) : dPen i 2 den (aCons f aNil) env P = .ok r P2 := dPen_ok he (aCons_ok h aNil_ok) rfl h2
section
variable {tb : List (Addr × Str)} {n : Nat} {P : Pen}
theorem one_of_list (g : Gd tb (n + 1) P) (xs : List D) (h0 : 0 < xs.length) (h1 : xs.length < 1073741824) : ∃ d P', den__law_one_of [.pen, .v (.list xs)] P = .ok d P' ∧ d ∈ xs ∧ Gd tb n P' := by
  obtain ⟨v, P', q, v0, v1, g'⟩ := take_ok g (xs.length : Int) (by omega)
  obtain ⟨d, e, hd⟩ := atI_some (xs := xs) (R := (· ∈ xs)) (fun _ h => h) v0 v1
  exact ⟨d, P', denOf_rt (sRet_ok (d2_ok (bVar_v rfl) (dPen_ok rfl (aCons_ok (dB_ok (aCons_ok (bVar_v rfl) aNil_ok) rfl) aNil_ok) rfl q) e)), hd, g'⟩
theorem one_of_word (g : Gd tb (n + 1) P) (w : List Sg) (h0 : 0 < w.length) (h1 : w.length ≤ 16777216) : ∃ s P', den__law_one_of [.pen, .v (.str (wordS w))] P = .ok (sD s) P' ∧ Gd tb n P' := by
  obtain ⟨v, P', q, v0, v1, g'⟩ := take_ok g (w.length : Int) (by omega)
  have hl : gLen [.str (wordS w)] = some (.int (w.length : Int)) := by
    show (if (wordS w).length ≤ 16777216 then _ else none) = _
    rw [wordS_len, if_pos h1]
  obtain ⟨j, rfl⟩ := Int.eq_ofNat_of_zero_le v0
  have hj : j < w.length := by omega
  refine ⟨w.getD j none, P', denOf_rt (sRet_ok (d2_ok (bVar_v rfl) (dPen_ok rfl (aCons_ok (dB_ok (aCons_ok (bVar_v rfl) aNil_ok) hl) aNil_ok) rfl q) ?_)), g'⟩
  show (if (wordS w).length ≤ 16777216 then _ else none) = _
  rw [wordS_len, if_pos h1]
  have e : L2.atI (wordS w).cps.toList (j : Int) = some (ch (w.getD j none)) := by
    refine L2.atI_nat (j := j) ?_
    show (w.map ch).toArray.toList[j]? = _
    rw [List.toList_toArray, List.getElem?_map, List.getElem?_eq_getElem hj, List.getD_eq_getElem?_getD, List.getElem?_eq_getElem hj]
    rfl
  rw [e]; rfl
theorem signs_of : ∀ ys : List D, (∀ y ∈ ys, ∃ s, y = sD s) → ∃ w : List Sg, ys = w.map sD
  | [], _ => ⟨[], rfl⟩
  | y :: ys, h => by
    obtain ⟨s, rfl⟩ := h y List.mem_cons_self
    obtain ⟨w, rfl⟩ := signs_of ys fun z hz => h z (List.mem_cons_of_mem _ hz)
    exact ⟨s :: w, rfl⟩
theorem any_word_ok (m : Nat) (hm : m ≤ 1000) (g : Gd tb (n + m + 1) P) : ∃ (w : List Sg) (P' : Pen), den__law_any_word [.pen, .v (.int (m : Int))] P = .ok (.str (wordS w)) P' ∧ w.length = m ∧ Gd tb n P' := by
  obtain ⟨d, P1, q1, hd, g1⟩ := one_of_list g [.str "01", .str "01?", .str "0?", .str "1?", .str "?01"] (by decide) (by decide)
  obtain ⟨b, rfl, b0, b1⟩ : ∃ b : List Sg, d = .str (wordS b) ∧ 0 < b.length ∧ b.length ≤ 3 := by
    simp only [List.mem_cons, List.not_mem_nil, or_false] at hd
    rcases hd with rfl | rfl | rfl | rfl | rfl
    · exact ⟨[some false, some true], by kernel_rfl, by decide, by decide⟩
    · exact ⟨[some false, some true, none], by kernel_rfl, by decide, by decide⟩
    · exact ⟨[some false, none], by kernel_rfl, by decide, by decide⟩
    · exact ⟨[some true, none], by kernel_rfl, by decide, by decide⟩
    · exact ⟨[none, some false, some true], by kernel_rfl, by decide, by decide⟩
  obtain ⟨ys, P2, q2, g2, hl, hs⟩ := dComp_count (it := itR1 (aCons (bVar 1) aNil)) (tg := tgName 3) (elt := dPen 0 2 den__law_one_of (aCons (dVar 2) aNil)) (vs := [3]) (env := [.pen, .v (.int (m : Int)), .v (.str (wordS b)), .un]) (P := P1) (ds := rangeD 0 m) (fun k P => Gd tb (n + k) P) (fun y => ∃ s, y = sD s)
    (itR1_ok (k := (m : Int)) (by wtm_at "vl evc") (by omega)) (by simp [rangeD]; omega) (by simpa [rangeD] using g1) (fun d _ k P h => by
      obtain ⟨s, P', q, g'⟩ := one_of_word (n := n + k) h b b0 (by omega)
      exact ⟨_, _, P', rfl, dPen_ok rfl (aCons_ok (dVar_v rfl) aNil_ok) rfl q, g', s, rfl⟩)
  obtain ⟨w, rfl⟩ := signs_of ys hs
  have hw : w.length = m := by simpa [rangeD] using hl
  exact ⟨w, P2, denOf_rt (sSeq_nx (sSet_ok (dPen_ok1 rfl (dLst_ok (by wtm_at "vl evc") (Nat.le_of_ble_eq_true rfl)) q1)) (sRet_ok (dMA_ok dC_ok rfl (aCons_ok q2 aNil_ok) (mJoin_signs w (by omega))))), hw, by simpa using g2⟩
end
end Tk
end
section
set_option autoImplicit false
set_option maxRecDepth 100000
set_option maxHeartbeats 1000000
/-! M9: drawn nets. -/
namespace Tk
open PySem Vl L2 TL

theorem fitsAll_snoc : ∀ (gs : List Gate) (g : Gate) (n : Nat), fitsAll gs n → g.fits (n + gs.length) → fitsAll (gs ++ [g]) n
  | [], g, n, _, h => ⟨h, trivial⟩
  | x :: gs, g, n, ⟨h1, h2⟩, h => ⟨h1, fitsAll_snoc gs g (n + 1) h2 (by rw [List.length_cons] at h; rw [show n + 1 + gs.length = n + (gs.length + 1) by omega]; exact h)⟩
/-- the kinds' numbers of inputs, as the drawing writes them -/
def dk2 : D := .dict (dMerge [] [(.inr "not", .int 1), (.inr "and", .int 2), (.inr "or", .int 2)])
theorem dk2_get {k : Str} (h : k ∈ (["not", "and", "or", "0", "1"] : List Str)) : mGet dk2 [.str k, .int 0] = some (.int (partsI k - 1)) := by
  simp only [List.mem_cons, List.not_mem_nil, or_false] at h
  rcases h with rfl | rfl | rfl | rfl | rfl <;> rfl
section
variable {tb : List (Addr × Str)} {n : Nat} {P : Pen}
theorem nums_ok (x0 x1 x2 x3 x4 x5 x7 x8 x9 : SV) (hx : x0 = .pen) (below : Nat) (h0 : 0 < below) (h1 : below < 1073741824) (c : Nat) (hc : c ≤ 2) (e : Vl.Env → M D) (he : e [x0, x1, x2, x3, x4, x5, .v (.int (below : Int)), x7, x8, x9] P = .ok (.int (c : Int)) P) (g : Gd tb (n + c) P) :
    ∃ (as : List Nat) (P' : Pen), dComp (itR1 (aCons e aNil)) (tgName 9) tsNil (dPen 0 2 den__law_take (aCons (dVar 6) aNil)) [9] [x0, x1, x2, x3, x4, x5, .v (.int (below : Int)), x7, x8, x9] P = .ok (.list (as.map fun (a : Nat) => PyData.int (a : Int))) P' ∧ as.length = c ∧ (∀ a ∈ as, a < below) ∧ Gd tb n P' := by
  subst hx
  obtain ⟨ys, P2, q2, g2, hl, hs⟩ := dComp_count (it := itR1 (aCons e aNil)) (tg := tgName 9) (elt := dPen 0 2 den__law_take (aCons (dVar 6) aNil)) (vs := [9]) (env := [.pen, x1, x2, x3, x4, x5, .v (.int (below : Int)), x7, x8, x9]) (P := P) (ds := rangeD 0 c) (fun k P => Gd tb (n + k) P) (fun y => ∃ a : Nat, y = .int (a : Int) ∧ a < below)
    (itR1_ok (k := (c : Int)) (aCons_ok he aNil_ok) (by omega)) (by simp [rangeD]; omega) (by simpa [rangeD] using g) (fun d _ k P h => by
      obtain ⟨v, P', q, v0, v1, g'⟩ := take_ok (n := n + k) h (below : Int) (by omega)
      obtain ⟨a, rfl⟩ := Int.eq_ofNat_of_zero_le v0
      exact ⟨_, _, P', rfl, dPen_ok1 rfl (dVar_v rfl) q, g', a, rfl, by omega⟩)
  have : ∀ ys : List D, (∀ y ∈ ys, ∃ a : Nat, y = .int (a : Int) ∧ a < below) → ∃ as : List Nat, ys = as.map (fun (a : Nat) => PyData.int (a : Int)) ∧ ∀ a ∈ as, a < below := by
    intro ys
    induction ys with
    | nil => exact fun _ => ⟨[], rfl, fun _ h => nomatch h⟩
    | cons y ys ih =>
      intro h
      obtain ⟨a, rfl, ha⟩ := h y List.mem_cons_self
      obtain ⟨as, rfl, hs⟩ := ih fun z hz => h z (List.mem_cons_of_mem _ hz)
      exact ⟨a :: as, rfl, fun b hb => by rcases List.mem_cons.mp hb with rfl | hb; exact ha; exact hs b hb⟩
  obtain ⟨as, rfl, ha⟩ := this ys hs
  exact ⟨as, P2, q2, by simpa [rangeD] using hl, ha, by simpa using g2⟩
abbrev kindsD : List D := [.str "not", .str "and", .str "or", .str "and", .str "or", .str "0", .str "1"]
abbrev netBody : Vl.Env → M Fl := (sSeq (sAsg (dTup (aCons (d2 dAdd (bVar 1) (dB gLen (aCons (bVar 4) aNil))) (aCons (dPen 0 2 den__law_one_of (aCons (dLst (aCons (dC (.str "not")) (aCons (dC (.str "and")) (aCons (dC (.str "or")) (aCons (dC (.str "and")) (aCons (dC (.str "or")) (aCons (dC (.str "0")) (aCons (dC (.str "1")) aNil)))))))) aNil)) aNil))) (tgTup 2 (tgCons (tgName 6) (tgCons (tgName 7) tgNil)))) (sSeq (sOwn 8 (dComp (itR1 (aCons (dMA msGet (dDisp (pCons (dC (.str "not")) (dC (.int 1)) (pCons (dC (.str "and")) (dC (.int 2)) (pCons (dC (.str "or")) (dC (.int 2)) pNil)))) (aCons (bVar 7) (aCons (dC (.int 0)) aNil))) aNil)) (tgName 9) tsNil (dPen 0 2 den__law_take (aCons (dVar 6) aNil)) [9])) (sApp 4 (dB gTuple (aCons (d2 dCat (dLst (aCons (dVar 7) aNil)) (bVar 8)) aNil)))))
theorem net_step (i : Nat) (hi : 1 ≤ i ∧ i ≤ 1000) (x2 x3 x5 x6 x7 x8 x9 : SV) (gs : List Gate) (hl : gs.length ≤ 1000) (g : Gd tb (n + 3) P) :
    ∃ (t : Gate) (P' : Pen) (y6 y7 y8 : SV), netBody [.pen, .v (.int (i : Int)), x2, x3, .own (gs.map Gate.d), x5, x6, x7, x8, x9] P = .ok (.nx [.pen, .v (.int (i : Int)), x2, x3, .own ((gs ++ [t]).map Gate.d), x5, y6, y7, y8, x9]) P' ∧ t.fits (i + gs.length) ∧ Gd tb n P' := by
  obtain ⟨d, P1, q1, hd, g1⟩ := one_of_list (n := n + 2) g kindsD (by decide) (by decide)
  obtain ⟨k, rfl, hk⟩ : ∃ k : Str, d = .str k ∧ k ∈ (["not", "and", "or", "0", "1"] : List Str) := by
    simp only [kindsD, List.mem_cons, List.not_mem_nil, or_false] at hd
    rcases hd with rfl | rfl | rfl | rfl | rfl | rfl | rfl <;> exact ⟨_, rfl, by simp⟩
  have hk' := hk
  simp only [List.mem_cons, List.not_mem_nil, or_false] at hk'
  obtain ⟨c, hc, hc2⟩ : ∃ c : Nat, partsI k - 1 = (c : Int) ∧ c ≤ 2 := by
    rcases hk' with rfl | rfl | rfl | rfl | rfl
    · exact ⟨1, rfl, by decide⟩
    · exact ⟨2, rfl, by decide⟩
    · exact ⟨2, rfl, by decide⟩
    · exact ⟨0, rfl, by decide⟩
    · exact ⟨0, rfl, by decide⟩
  have hlen : gLen [.list (gs.map Gate.d)] = some (.int (gs.length : Int)) := by
    show some (PyData.int ((gs.map Gate.d).length : Int)) = _
    rw [List.length_map]
  have a1 : sAsg (dTup (aCons (d2 dAdd (bVar 1) (dB gLen (aCons (bVar 4) aNil))) (aCons (dPen 0 2 den__law_one_of (aCons (dLst (aCons (dC (.str "not")) (aCons (dC (.str "and")) (aCons (dC (.str "or")) (aCons (dC (.str "and")) (aCons (dC (.str "or")) (aCons (dC (.str "0")) (aCons (dC (.str "1")) aNil)))))))) aNil)) aNil))) (tgTup 2 (tgCons (tgName 6) (tgCons (tgName 7) tgNil))) [.pen, .v (.int (i : Int)), x2, x3, .own (gs.map Gate.d), x5, x6, x7, x8, x9] P = .ok (.nx [.pen, .v (.int (i : Int)), x2, x3, .own (gs.map Gate.d), x5, .v (.int ((i + gs.length : Nat) : Int)), .v (.str k), x8, x9]) P1 :=
    sAsg_ok (dTup_ok (aCons_ok (d2_ok (bVar_v rfl) (dB_ok (aCons_ok (bVar_o rfl) aNil_ok) hlen) (show dAdd (.int (i : Int)) (.int (gs.length : Int)) = some (.int ((i + gs.length : Nat) : Int)) by rw [Int.natCast_add]; rfl)) (aCons_ok (dPen_ok1 rfl (dLst_ok (by wtm_at "vl evc") (Nat.le_of_ble_eq_true rfl)) q1) aNil_ok)) (Nat.le_of_ble_eq_true rfl)) rfl
  obtain ⟨as, P2, q2, hl2, ha, g2⟩ := nums_ok (tb := tb) (n := n) (P := P1) .pen (.v (.int (i : Int))) x2 x3 (.own (gs.map Gate.d)) x5 (.v (.str k)) x8 x9 rfl (i + gs.length) (by omega) (by omega) c hc2 (dMA msGet (dDisp (pCons (dC (.str "not")) (dC (.int 1)) (pCons (dC (.str "and")) (dC (.int 2)) (pCons (dC (.str "or")) (dC (.int 2)) pNil)))) (aCons (bVar 7) (aCons (dC (.int 0)) aNil)))
    (dMA_ok (x := dk2) (op := mGet) (dDisp_ok (pCons_ok dC_ok dC_ok (pCons_ok dC_ok dC_ok (pCons_ok dC_ok dC_ok pNil_ok))) rfl (by decide)) rfl (aCons_ok (bVar_v rfl) (aCons_ok dC_ok aNil_ok)) (by rw [dk2_get hk, hc])) (g1.mono (by omega))
  obtain ⟨t, ht, hf⟩ : ∃ t : Gate, PyData.tuple (.str k :: as.map fun (a : Nat) => PyData.int (a : Int)) = t.d ∧ t.fits (i + gs.length) := by
    have two : ∀ (b : Bool) (kk : Str), c = 2 → (∀ a b', (Gate.bin b a b').d = .tuple [.str kk, .int (a : Int), .int (b' : Int)]) → k = kk → ∃ t : Gate, PyData.tuple (.str k :: as.map fun (a : Nat) => PyData.int (a : Int)) = t.d ∧ t.fits (i + gs.length) := by
      intro b kk hc' hd' hk'
      match as, hl2, ha with
      | [a, b'], _, ha => exact ⟨.bin b a b', by rw [hd', hk']; rfl, ha a (by simp), ha b' (by simp)⟩
      | [], h, _ => rw [hc'] at h; cases h
      | [_], h, _ => rw [hc'] at h; cases h
      | _ :: _ :: _ :: _, h, _ => rw [hc'] at h; simp at h
    have zero : ∀ b : Bool, c = 0 → (Gate.con b).d = .tuple [.str k] → ∃ t : Gate, PyData.tuple (.str k :: as.map fun (a : Nat) => PyData.int (a : Int)) = t.d ∧ t.fits (i + gs.length) := by
      intro b hc' hd'
      have : as = [] := List.length_eq_zero_iff.mp (by omega)
      exact ⟨.con b, by rw [hd', this]; rfl, trivial⟩
    rcases hk' with rfl | rfl | rfl | rfl | rfl
    · have hc' : c = 1 := by have e : partsI "not" - 1 = 1 := rfl; omega
      match as, hl2, ha with
      | [a], _, ha => exact ⟨.neg a, rfl, ha a (by simp)⟩
      | [], h, _ => rw [hc'] at h; cases h
      | _ :: _ :: _, h, _ => rw [hc'] at h; simp at h
    · exact two true "and" (by have e : partsI "and" - 1 = 2 := rfl; omega) (fun _ _ => rfl) rfl
    · exact two false "or" (by have e : partsI "or" - 1 = 2 := rfl; omega) (fun _ _ => rfl) rfl
    · exact zero false (by have e : partsI "0" - 1 = 0 := rfl; omega) rfl
    · exact zero true (by have e : partsI "1" - 1 = 0 := rfl; omega) rfl
  refine ⟨t, P2, .v (.int ((i + gs.length : Nat) : Int)), .v (.str k), .own (as.map fun (a : Nat) => PyData.int (a : Int)), sSeq_nx a1 (sSeq_nx (sOwn_ok q2) ?_), hf, g2⟩
  have hcat : dCat (.list [.str k]) (.list (as.map fun (a : Nat) => PyData.int (a : Int))) = some (.list (.str k :: as.map fun (a : Nat) => PyData.int (a : Int))) := by
    show guardD (decide (_ ≤ _)) _ = _
    refine guardD_of (decide_eq_true ?_)
    rw [List.length_map]
    show 1 + as.length ≤ 16777216
    omega
  have hm : (gs ++ [t]).map Gate.d = gs.map Gate.d ++ [t.d] := by rw [List.map_append]; rfl
  rw [hm, ← ht]
  exact sApp_ok rfl (dB_ok (aCons_ok (d2_ok (dLst_ok (aCons_ok (dVar_v rfl) aNil_ok) (Nat.le_of_ble_eq_true rfl)) (bVar_o rfl) hcat) aNil_ok) rfl) (by rw [List.length_map]; omega)
theorem net_loop (i : Nat) (hi : 1 ≤ i ∧ i ≤ 1000) (x2 x3 x9 : SV) : ∀ (ds : List D) (n : Nat) (P : Pen) (gs : List Gate) (x5 x6 x7 x8 : SV), gs.length + ds.length ≤ 1000 → fitsAll gs i → Gd tb (n + 3 * ds.length) P →
    ∃ (gs' : List Gate) (P' : Pen) (y5 y6 y7 y8 : SV), loopD (tgName 5) netBody ds [.pen, .v (.int (i : Int)), x2, x3, .own (gs.map Gate.d), x5, x6, x7, x8, x9] P = .ok (.nx [.pen, .v (.int (i : Int)), x2, x3, .own (gs'.map Gate.d), y5, y6, y7, y8, x9]) P' ∧ gs'.length = gs.length + ds.length ∧ fitsAll gs' i ∧ Gd tb n P'
  | [], n, P, gs, x5, x6, x7, x8, _, hf, g => ⟨gs, P, x5, x6, x7, x8, rfl, rfl, hf, g⟩
  | d :: ds, n, P, gs, x5, x6, x7, x8, hl, hf, g => by
    rw [List.length_cons] at hl g
    obtain ⟨t, P1, y6, y7, y8, q1, ht, g1⟩ := net_step (tb := tb) (n := n + 3 * ds.length) (P := P) i hi x2 x3 (.v d) x6 x7 x8 x9 gs (by omega) (g.mono (by omega))
    obtain ⟨gs', P2, z5, z6, z7, z8, q2, hl2, hf2, g2⟩ := net_loop i hi x2 x3 x9 ds n P1 (gs ++ [t]) (.v d) y6 y7 y8 (by rw [List.length_append, List.length_singleton]; omega) (fitsAll_snoc gs t i hf ht) g1
    refine ⟨gs', P2, z5, z6, z7, z8, ?_, by rw [hl2, List.length_append, List.length_singleton, List.length_cons]; omega, hf2, g2⟩
    unfold loopD
    show bnd (netBody [.pen, .v (.int (i : Int)), x2, x3, .own (gs.map Gate.d), .v d, x6, x7, x8, x9]) _ P = _
    rw [bnd_ok q1]
    exact q2
theorem any_net_ok (i most m : Nat) (hi : 1 ≤ i ∧ i ≤ 32) (hm : 1 ≤ m ∧ m ≤ 32) (hmost : most ≤ 900) (g : Gd tb (n + 3 * most + m + 1) P) :
    ∃ (t : Net) (P' : Pen), den__law_any_net [.pen, .v (.int (i : Int)), .v (.int (most : Int)), .v (.int (m : Int))] P = .ok t.d P' ∧ t.Ok ∧ t.n = i ∧ t.gates.length ≤ most ∧ t.outs.length = m ∧ Gd tb n P' := by
  obtain ⟨v, P1, q1, v0, v1, g1⟩ := take_ok (n := n + 3 * most + m) g ((most : Int) + 1) (by omega)
  obtain ⟨c, rfl⟩ := Int.eq_ofNat_of_zero_le v0
  have hc : c ≤ most := by omega
  obtain ⟨gs, P2, y5, y6, y7, y8, q2, hl, hf, g2⟩ := net_loop (tb := tb) i (by omega) (.v (.int (most : Int))) (.v (.int (m : Int))) .un (rangeD 0 c) (n + m) P1 [] .un .un .un .un (by simp [rangeD]; omega) trivial (g1.mono (by simp [rangeD]; omega))
  have hgl : gs.length = c := by simpa [rangeD] using hl
  have hlen : gLen [.list (gs.map Gate.d)] = some (.int (gs.length : Int)) := by
    show some (PyData.int ((gs.map Gate.d).length : Int)) = _
    rw [List.length_map]
  obtain ⟨ys, P3, q3, g3, hl3, hs⟩ := dComp_count (it := itR1 (aCons (bVar 3) aNil)) (tg := tgName 9) (elt := dPen 0 2 den__law_take (aCons (d2 dAdd (bVar 1) (dB gLen (aCons (bVar 4) aNil))) aNil)) (vs := [9]) (env := [.pen, .v (.int (i : Int)), .v (.int (most : Int)), .v (.int (m : Int)), .own (gs.map Gate.d), y5, y6, y7, y8, .un]) (P := P2) (ds := rangeD 0 m) (fun k P => Gd tb (n + k) P) (fun y => ∃ a : Nat, y = .int (a : Int) ∧ a < i + gs.length)
    (itR1_ok (k := (m : Int)) (by wtm_at "vl evc") (by omega)) (by simp [rangeD]; omega) (by simpa [rangeD] using g2) (fun d _ k P h => by
      obtain ⟨v, P', q, v0, v1, g'⟩ := take_ok (n := n + k) h ((i + gs.length : Nat) : Int) (by omega)
      obtain ⟨a, rfl⟩ := Int.eq_ofNat_of_zero_le v0
      exact ⟨_, _, P', rfl, dPen_ok1 rfl (d2_ok (bVar_v rfl) (dB_ok (aCons_ok (bVar_o rfl) aNil_ok) hlen) (show dAdd (.int (i : Int)) (.int (gs.length : Int)) = some (.int ((i + gs.length : Nat) : Int)) by rw [Int.natCast_add]; rfl)) q, g', a, rfl, by omega⟩)
  obtain ⟨os, rfl, ho⟩ : ∃ os : List Nat, ys = os.map (fun (a : Nat) => PyData.int (a : Int)) ∧ ∀ a ∈ os, a < i + gs.length := by
    have : ∀ ys : List D, (∀ y ∈ ys, ∃ a : Nat, y = .int (a : Int) ∧ a < i + gs.length) → ∃ as : List Nat, ys = as.map (fun (a : Nat) => PyData.int (a : Int)) ∧ ∀ a ∈ as, a < i + gs.length := by
      intro ys
      induction ys with
      | nil => exact fun _ => ⟨[], rfl, fun _ h => nomatch h⟩
      | cons y ys ih =>
        intro h
        obtain ⟨a, rfl, ha⟩ := h y List.mem_cons_self
        obtain ⟨as, rfl, hs⟩ := ih fun z hz => h z (List.mem_cons_of_mem _ hz)
        exact ⟨a :: as, rfl, fun b hb => by rcases List.mem_cons.mp hb with rfl | hb; exact ha; exact hs b hb⟩
    exact this ys hs
  have hol : os.length = m := by simpa [rangeD] using hl3
  refine ⟨⟨i, gs, os⟩, P3, ?_, ⟨hi.1, hi.2, by show gs.length ≤ 100000; omega, hf, by show 1 ≤ os.length; omega, by show os.length ≤ 32; omega, ho⟩, rfl, by show gs.length ≤ most; omega, hol, by simpa using g3⟩
  refine denOf_rt (sSeq_nx (sOwn_ok (dLst_ok aNil_ok (Nat.le_of_ble_eq_true rfl))) (sSeq_nx (sFor_ok (itR1_ok (k := (c : Int)) (aCons_ok (dPen_ok1 rfl (d2_ok (bVar_v rfl) dC_ok rfl) q1) aNil_ok) (by omega)) (by rw [Int.toNat_natCast]; exact q2)) (sRet_ok ?_)))
  exact dTup_ok (aCons_ok (dVar_v rfl) (aCons_ok (dB_ok (aCons_ok (bVar_o rfl) aNil_ok) rfl) (aCons_ok (dB_ok (aCons_ok q3 aNil_ok) rfl) aNil_ok))) (Nat.le_of_ble_eq_true rfl)
end
end Tk
end
section
set_option autoImplicit false
set_option maxRecDepth 100000
set_option maxHeartbeats 1000000
/-! M10: small things: how they are shown; more settled words. -/
namespace Tk
open PySem Vl L2 TL

mutual
/-- nothing great, no dict with members -/
def Sm : D → Prop
  | .none => True
  | .bool _ => True
  | .int i => i.natAbs ≤ 1000000
  | .str s => ∀ c ∈ s.cps.toList, c < 1114112
  | .list xs => Sms xs
  | .tuple xs => Sms xs
  | .dict kvs => kvs = []
def Sms : List D → Prop
  | [] => True
  | d :: ds => Sm d ∧ Sms ds
end
mutual
def wt : D → Nat
  | .none => 4
  | .bool _ => 5
  | .int i => i.natAbs + 2
  | .str s => 10 * s.length + 2
  | .list xs => 4 + wts xs
  | .tuple xs => 4 + wts xs
  | .dict _ => 2
def wts : List D → Nat
  | [] => 0
  | d :: ds => wt d + 2 + wts ds
end
theorem tup_len (ts : List Str) : (tupleText ts).length ≤ 3 + piled ts := by
  unfold tupleText
  rw [strLen_append]; rw [strLen_append]
  have e1 : ("(" : Str).length = 1 := rfl
  have e2 : (Str.ofString (if (ts.length == 1) = true then ",)" else ")")).length ≤ 2 := by
    split
    · exact Nat.le_of_ble_eq_true rfl
    · exact Nat.le_of_ble_eq_true rfl
  have e3 : (Str.join ", " ts).length ≤ piled ts := by
    cases ts with
    | nil => exact Nat.le_refl _
    | cons t r =>
      have := join_length_add (t :: r) (by simp)
      omega
  rw [e1]
  omega
theorem from_len : ∀ (ts : List Str) (k : Nat) (acc : Str), (textFrom k acc ts).length ≤ acc.length + piled ts
  | [], k, acc => by show acc.length ≤ _; omega
  | t :: r, k, acc => by
    have h := from_len r (k + 1) (acc ++ (if k > 0 then ", " else "" : String) ++ t)
    have e : (acc ++ Str.ofString (if k > 0 then ", " else "" : String) ++ t).length ≤ acc.length + 2 + t.length := by
      rw [strLen_append]; rw [strLen_append]
      have : (Str.ofString (if k > 0 then ", " else "")).length ≤ 2 := by
        split
        · exact Nat.le_of_ble_eq_true rfl
        · exact Nat.le_of_ble_eq_true rfl
      omega
    rw [piled_cons]
    exact Nat.le_trans h (by omega)
theorem list_len (ts : List Str) : (listText ts).length ≤ 2 + piled ts := by
  unfold listText
  rw [strLen_append]
  have := from_len ts 0 "["
  have e1 : ("[" : Str).length = 1 := rfl
  have e2 : ("]" : Str).length = 1 := rfl
  rw [e1] at this
  rw [e2]
  omega
mutual
theorem shown_small : ∀ d : D, Sm d → d.showable = true ∧ d.shown.length ≤ wt d
  | .none, _ => ⟨rfl, Nat.le_of_ble_eq_true rfl⟩
  | .bool b, _ => ⟨rfl, by cases b <;> exact Nat.le_of_ble_eq_true rfl⟩
  | .int i, h => by
    refine ⟨?_, ?_⟩
    · show decide (i.natAbs.log2 < 1920) = true
      refine decide_eq_true ?_
      have h : i.natAbs ≤ 1000000 := h
      have : i.natAbs.log2 ≤ i.natAbs := Nat.log2_le_self _
      by_cases z : i.natAbs = 0
      · rw [z]; decide
      · have := (Nat.log2_lt z).mpr (show i.natAbs < 2 ^ 20 by omega)
        omega
    · have := PyProof.Rows.len_str_of_int i
      show (Str.ofString (toString i)).length ≤ i.natAbs + 2
      omega
  | .str s, h => ⟨rfl, StrLaws.reprText_len s fun c hc => Nat.lt_of_lt_of_le (h c hc) (by decide)⟩
  | .list xs, h => by
    obtain ⟨h1, h2⟩ := shown_smalls xs h
    exact ⟨h1, Nat.le_trans (list_len _) (by show 2 + _ ≤ 4 + wts xs; omega)⟩
  | .tuple xs, h => by
    obtain ⟨h1, h2⟩ := shown_smalls xs h
    exact ⟨h1, Nat.le_trans (tup_len _) (by show 3 + _ ≤ 4 + wts xs; omega)⟩
  | .dict kvs, h => by
    have h : kvs = [] := h
    subst h
    exact ⟨rfl, Nat.le_of_ble_eq_true rfl⟩
theorem shown_smalls : ∀ ds : List D, Sms ds → PyData.showableAll ds = true ∧ piled (PyData.shownAll ds) ≤ wts ds
  | [], _ => ⟨rfl, Nat.le_refl _⟩
  | d :: ds, ⟨h1, h2⟩ => by
    obtain ⟨a1, a2⟩ := shown_small d h1
    obtain ⟨b1, b2⟩ := shown_smalls ds h2
    refine ⟨by show (d.showable && PyData.showableAll ds) = true; rw [a1, b1]; rfl, ?_⟩
    show piled (d.shown :: PyData.shownAll ds) ≤ wt d + 2 + wts ds
    rw [piled_cons]
    omega
end
theorem repr_ok (d : D) (h : Sm d) (hd : d.depth ≤ 64) (hw : wt d ≤ 16777216) : gRepr [d] = some (.str d.shown) := by
  obtain ⟨h1, h2⟩ := shown_small d h
  show (if d.showable = true ∧ d.depth ≤ 64 ∧ d.shown.length ≤ 16777216 then _ else none) = _
  rw [if_pos ⟨h1, hd, by omega⟩]
theorem repr_word (w : List Sg) (h : w.length ≤ 1000) : gRepr [.str (wordS w)] = some (.str (PyData.shown (.str (wordS w)))) := by
  refine repr_ok _ ?_ (by simp [PyData.depth]) ?_
  · intro c hc
    have hc : c ∈ (w.map ch).toArray.toList := hc
    rw [List.toList_toArray] at hc
    obtain ⟨s, _, rfl⟩ := List.mem_map.mp hc
    rcases s with _ | _ | _ <;> decide
  · show 10 * (wordS w).length + 2 ≤ _
    rw [wordS_len]; omega
theorem repr_bool (b : Bool) : gRepr [.bool b] = some (.str (PyData.shown (.bool b))) := by cases b <;> rfl
/-! ### more settled words -/
def leS (a b : Sg) : Prop := b = none ∨ a = b
inductive Rw : List Sg → List Sg → Prop
  | nil : Rw [] []
  | cons {a b : Sg} {u w : List Sg} : leS a b → Rw u w → Rw (a :: u) (b :: w)
theorem leS.refl (a : Sg) : leS a a := .inr rfl
theorem nS_mono {a b : Sg} (h : leS a b) : leS (nS a) (nS b) := by
  rcases h with rfl | rfl
  · exact .inl rfl
  · exact .inr rfl
theorem andS_mono {a b c d : Sg} (h : leS a b) (h2 : leS c d) : leS (andS a c) (andS b d) := by
  rcases h with rfl | rfl <;> rcases h2 with rfl | rfl
  · exact .inl rfl
  · rcases c with _ | _ | _ <;> rcases a with _ | _ | _ <;> first | exact .inl rfl | exact .inr rfl
  · rcases c with _ | _ | _ <;> rcases a with _ | _ | _ <;> first | exact .inl rfl | exact .inr rfl
  · exact .inr rfl
theorem orS_mono {a b c d : Sg} (h : leS a b) (h2 : leS c d) : leS (orS a c) (orS b d) := by
  rcases h with rfl | rfl <;> rcases h2 with rfl | rfl
  · exact .inl rfl
  · rcases c with _ | _ | _ <;> rcases a with _ | _ | _ <;> first | exact .inl rfl | exact .inr rfl
  · rcases c with _ | _ | _ <;> rcases a with _ | _ | _ <;> first | exact .inl rfl | exact .inr rfl
  · exact .inr rfl
theorem Rw.getD {u w : List Sg} (h : Rw u w) (i : Nat) : leS (u.getD i none) (w.getD i none) := by
  induction (h) generalizing i with
  | nil => exact .inr rfl
  | cons h1 h2 ih =>
    cases i with
    | zero => exact h1
    | succ i => exact ih i
theorem Rw.snoc {u w : List Sg} {a b : Sg} (h : Rw u w) (h2 : leS a b) : Rw (u ++ [a]) (w ++ [b]) := by
  induction h with
  | nil => exact .cons h2 .nil
  | cons h1 _ ih => exact .cons h1 ih
theorem tell_mono (g : Gate) {u w : List Sg} (h : Rw u w) : leS (g.tell u) (g.tell w) := by
  cases g with
  | con b => exact .inr rfl
  | neg a => exact nS_mono (h.getD a)
  | bin k a b => cases k
                 · exact orS_mono (h.getD a) (h.getD b)
                 · exact andS_mono (h.getD a) (h.getD b)
theorem tellAll_mono : ∀ (gs : List Gate) {u w : List Sg}, Rw u w → Rw (tellAll gs u) (tellAll gs w)
  | [], _, _, h => h
  | g :: gs, _, _, h => tellAll_mono gs (h.snoc (tell_mono g h))
theorem run_mono (t : Net) {u w : List Sg} (h : Rw u w) : Rw (runS t u) (runS t w) := by
  unfold runS
  have h2 := tellAll_mono t.gates h
  generalize t.outs = os
  induction os with
  | nil => exact .nil
  | cons o os ih => exact .cons (h2.getD o) ih
theorem fm_none {α β : Type} : ∀ xs : List α, xs.filterMap (fun _ => (none : Option β)) = []
  | [] => rfl
  | x :: xs => by rw [List.filterMap_cons]; exact fm_none xs
theorem pair_ne (a b : Sg) (h : leS a b) : (b = none ∨ (b ≠ none ∧ a = b)) := by
  rcases h with rfl | rfl
  · exact .inl rfl
  · by_cases z : a = none
    · exact .inl z
    · exact .inr ⟨z, rfl⟩
theorem is_within_ok (u w : List Sg) (h : Rw u w) (hl : u.length ≤ 1000) (P : Pen) : den__law_is_within [.v (.str (wordS u)), .v (.str (wordS w))] P = .ok (.bool true) P := by
  refine denOf_rt (sRet_ok ?_)
  have hz : ∀ d ∈ zipD (u.map sD) (w.map sD), ∃ a b, d = .tuple [sD a, sD b] ∧ leS a b := by
    induction h with
    | nil => intro d hd; exact nomatch hd
    | @cons a b u' w' h1 h2 ih =>
      intro d hd
      rcases List.mem_cons.mp (show d ∈ .tuple [sD a, sD b] :: zipD (u'.map sD) (w'.map sD) from hd) with rfl | hd
      · exact ⟨a, b, rfl, h1⟩
      · exact ih (by rw [List.length_cons] at hl; omega) d hd
  refine d2_ok (dComp_filter (ds := zipD (u.map sD) (w.map sD)) (fun _ => none) (itZ2_ok (aCons_ok (dVar_v rfl) (aCons_ok (dVar_v rfl) aNil_ok)) (show walkD _ = some (u.map sD) by show some (signs (wordS u)) = _; rw [signs_wordS]) (show walkD _ = some (w.map sD) by show some (signs (wordS w)) = _; rw [signs_wordS])) (by rw [zipD_len]; simp; omega) fun d hd => ?_) (dLst_ok aNil_ok (Nat.le_of_ble_eq_true rfl)) (by rw [fm_none]; exact ones_eq [] (fun _ h => nomatch h))
  obtain ⟨a, b, rfl, hab⟩ := hz d hd
  refine ⟨_, rfl, .inl ⟨rfl, ?_⟩⟩
  rcases hab with rfl | rfl
  · exact mAnd_f (by rcases a with _ | _ | _ <;> wtm_at "vl evc")
  · rcases a with _ | _ | _
    · exact mAnd_f (by wtm_at "vl evc")
    · exact mAnd_t (by wtm_at "vl evc") (by wtm_at "vl evc")
    · exact mAnd_t (by wtm_at "vl evc") (by wtm_at "vl evc")
end Tk
end
section
set_option autoImplicit false
set_option maxRecDepth 100000
set_option maxHeartbeats 1000000
/-! M11: the settlings that the law lists. -/
namespace Tk
open PySem Vl L2 TL

theorem compD_two {tg : D → Vl.Env → Option Vl.Env} {ts : Vl.Env → M Bool} {elt : Vl.Env → M D} {env e1 e2 : Vl.Env} {P : Pen} {a b ya yb : D} {ba bb : Bool} (h1 : tg a env = some e1) (h2 : tg b env = some e2) (t1 : ts e1 P = .ok ba P) (t2 : ts e2 P = .ok bb P) (y1 : elt e1 P = .ok ya P) (y2 : elt e2 P = .ok yb P) :
    compD tg ts elt [a, b] 0 env P = .ok ((if ba then [ya] else []) ++ (if bb then [yb] else [])) P := by
  have f1 : noEx (ts e1) P = .ok ba P := by unfold noEx; rw [t1]
  have f2 : noEx (ts e2) P = .ok bb P := by unfold noEx; rw [t2]
  have g1 : noEx (elt e1) P = .ok ya P := by unfold noEx; rw [y1]
  have g2 : noEx (elt e2) P = .ok yb P := by unfold noEx; rw [y2]
  have c2 : ∀ n, n < 16777216 → compD tg ts elt [b] n env P = .ok (if bb then [yb] else []) P := fun n hn => by
    unfold compD
    rw [h2]
    simp only [bnd_ok f2]
    cases bb with
    | true => simp only [if_true, bnd_ok g2, if_pos hn]; rfl
    | false => rfl
  unfold compD
  rw [h1]
  simp only [bnd_ok f1]
  cases ba with
  | true =>
    have lt0 : (0 : Nat) < 16777216 := by decide
    simp only [if_true, bnd_ok g1, if_pos lt0, bnd_ok (c2 1 (by decide))]
    rfl
  | false => exact c2 0 (by decide)
theorem add_sign (u : List Sg) (b : Bool) (h : u.length ≤ 1000) : dAdd (.str (wordS u)) (sD (some b)) = some (.str (wordS (u ++ [some b]))) := by
  have e : wordS u ++ (⟨#[ch (some b)]⟩ : Str) = wordS (u ++ [some b]) := by
    refine ext_tl ?_
    rw [tl_append]
    show (u.map ch).toArray.toList ++ [ch (some b)] = ((u ++ [some b]).map ch).toArray.toList
    simp
  show guardD (decide ((wordS u).length + 1 ≤ 16777216)) (.str (wordS u ++ (⟨#[ch (some b)]⟩ : Str))) = _
  rw [guardD_of (decide_eq_true (by rw [wordS_len]; omega)), e]
abbrev optBody : Vl.Env → M D := dComp (itD (dC (.str "01"))) (tgName 5) (tV (d2 dInA (bVar 2) (dLst (aCons (dVar 5) (aCons (dC (.str "?")) aNil))))) (d2 dAdd (bVar 4) (bVar 5)) [5]
theorem opts_ok (x0 x1 x3 x5 : SV) (s : Sg) (u : List Sg) (h : u.length ≤ 1000) (P : Pen) : ∃ ys, optBody [x0, x1, .v (sD s), x3, .v (.str (wordS u)), x5] P = .ok (.list ys) P ∧ ys.length ≤ 2 ∧ ∀ y ∈ ys, ∃ b : Bool, y = .str (wordS (u ++ [some b])) ∧ leS (some b) s := by
  have tst : ∀ b : Bool, dInA (sD s) (.list [sD (some b), .str "?"]) = some (.bool (decide (s = none ∨ s = some b))) := by
    intro b
    rcases s with _ | _ | _ <;> cases b <;> kernel_rfl
  have t : ∀ b : Bool, tV (d2 dInA (bVar 2) (dLst (aCons (dVar 5) (aCons (dC (.str "?")) aNil)))) [x0, x1, .v (sD s), x3, .v (.str (wordS u)), .v (sD (some b))] P = .ok (decide (s = none ∨ s = some b)) P := fun b =>
    tV_ok (d2_ok (bVar_v rfl) (dLst_ok (aCons_ok (dVar_v rfl) (aCons_ok dC_ok aNil_ok)) (Nat.le_of_ble_eq_true rfl)) (tst b))
  have y : ∀ b : Bool, d2 dAdd (bVar 4) (bVar 5) [x0, x1, .v (sD s), x3, .v (.str (wordS u)), .v (sD (some b))] P = .ok (.str (wordS (u ++ [some b]))) P := fun b => d2_ok (bVar_v rfl) (bVar_v rfl) (add_sign u b h)
  refine ⟨(if decide (s = none ∨ s = some false) then [.str (wordS (u ++ [some false]))] else []) ++ (if decide (s = none ∨ s = some true) then [.str (wordS (u ++ [some true]))] else []), ?_, ?_, ?_⟩
  · show dComp _ _ _ _ _ _ _ = _
    unfold dComp
    rw [bnd_ok (itD_str (s := "01") dC_ok)]
    have c := compD_two (tg := tgName 5) (env := wipeE [x0, x1, .v (sD s), x3, .v (.str (wordS u)), x5] [5]) (a := sD (some false)) (b := sD (some true)) rfl rfl (t false) (t true) (y false) (y true)
    rw [show signs "01" = [sD (some false), sD (some true)] from rfl, bnd_ok c]
    rfl
  · rw [List.length_append]
    split <;> split <;> simp
  · intro z hz
    rcases (List.mem_append.mp hz) with hz | hz
    · split at hz
      · rename_i hc
        rcases List.mem_singleton.mp hz with rfl
        refine ⟨false, rfl, ?_⟩
        rcases of_decide_eq_true hc with q | q
        · exact .inl q
        · exact .inr q.symm
      · cases hz
    · split at hz
      · rename_i hc
        rcases List.mem_singleton.mp hz with rfl
        refine ⟨true, rfl, ?_⟩
        rcases of_decide_eq_true hc with q | q
        · exact .inl q
        · exact .inr q.symm
      · cases hz
/-- texts of words within w -/
def Wi (w : List Sg) (y : D) : Prop := ∃ u, y = .str (wordS u) ∧ Rw u w
theorem Rw.len {u w : List Sg} (h : Rw u w) : u.length = w.length := by
  induction h with
  | nil => rfl
  | cons _ _ ih => (rw [List.length_cons, List.length_cons, ih])
theorem inner_ok (x0 x1 : SV) (s : Sg) (w0 : List Sg) (hw : w0.length ≤ 1000) (P : Pen) : ∀ (us ls : List D) (x4 x5 : SV), (∀ y ∈ us, Wi w0 y) → (∀ y ∈ ls, Wi (w0 ++ [s]) y) → ls.length + 2 * us.length ≤ 1000000 →
    ∃ (ls' : List D) (y4 y5 : SV), loopD (tgName 4) (sSet 3 (d2 dCat (bVar 3) optBody)) us [x0, x1, .v (sD s), .v (.list ls), x4, x5] P = .ok (.nx [x0, x1, .v (sD s), .v (.list ls'), y4, y5]) P ∧ ls'.length ≤ ls.length + 2 * us.length ∧ ∀ y ∈ ls', Wi (w0 ++ [s]) y
  | [], ls, x4, x5, _, h2, _ => ⟨ls, x4, x5, rfl, Nat.le_refl _, h2⟩
  | z :: us, ls, x4, x5, h1, h2, h3 => by
    rw [List.length_cons] at h3
    obtain ⟨u, rfl, hu⟩ := h1 z List.mem_cons_self
    obtain ⟨ys, q1, l1, p1⟩ := opts_ok x0 x1 (.v (.list ls)) x5 s u (by rw [hu.len]; exact hw) P
    obtain ⟨ls', y4, y5, q2, l2, p2⟩ := inner_ok x0 x1 s w0 hw P us (ls ++ ys) (.v (.str (wordS u))) x5 (fun y hy => h1 y (List.mem_cons_of_mem _ hy)) (fun y hy => by
      rcases (List.mem_append.mp hy) with hy | hy
      · exact h2 y hy
      · obtain ⟨b, rfl, hb⟩ := p1 y hy
        exact ⟨_, rfl, hu.snoc hb⟩) (by rw [List.length_append]; omega)
    refine ⟨ls', y4, y5, ?_, by rw [List.length_append] at l2; rw [List.length_cons]; omega, p2⟩
    unfold loopD
    show bnd (sSet 3 _ [x0, x1, .v (sD s), .v (.list ls), .v (.str (wordS u)), x5]) _ P = _
    have hs := sSet_ok (i := 3) (env := [x0, x1, .v (sD s), .v (.list ls), .v (.str (wordS u)), x5]) (P := P) (d2_ok (op := dCat) (bVar_v (i := 3) rfl) q1 (show dCat (.list ls) (.list ys) = some (.list (ls ++ ys)) from guardD_of (decide_eq_true (by omega))))
    rw [bnd_ok hs]
    exact q2
theorem outer_ok (x0 : SV) (P : Pen) : ∀ (w w0 : List Sg) (us : List D) (x2 x3 x4 x5 : SV), w0.length + w.length ≤ 12 → (∀ y ∈ us, Wi w0 y) → us.length ≤ 2 ^ w0.length →
    ∃ (us' : List D) (y2 y3 y4 y5 : SV), loopD (tgName 2) (sSeq (sSet 3 (dLst aNil)) (sSeq (sFor (itD (dVar 1)) (tgName 4) (sSet 3 (d2 dCat (bVar 3) optBody))) (sSet 1 (dVar 3)))) (w.map sD) [x0, .v (.list us), x2, x3, x4, x5] P = .ok (.nx [x0, .v (.list us'), y2, y3, y4, y5]) P ∧ us'.length ≤ 2 ^ (w0.length + w.length) ∧ ∀ y ∈ us', Wi (w0 ++ w) y
  | [], w0, us, x2, x3, x4, x5, _, h2, h3 => ⟨us, x2, x3, x4, x5, rfl, h3, by rw [List.append_nil]; exact h2⟩
  | s :: w, w0, us, x2, x3, x4, x5, h1, h2, h3 => by
    rw [List.length_cons] at h1
    have hp : 2 ^ w0.length ≤ 2 ^ 12 := Nat.pow_le_pow_right (by decide) (by omega)
    obtain ⟨ls, y4, y5, q1, l1, p1⟩ := inner_ok x0 (.v (.list us)) s w0 (by omega) P us [] x4 x5 h2 (fun _ h => nomatch h) (by have : (2 : Nat) ^ 12 = 4096 := rfl; simp only [List.length_nil]; omega)
    have he : (w0 ++ [s]).length = w0.length + 1 := by simp
    obtain ⟨us', z2, z3, z4, z5, q2, l2, p2⟩ := outer_ok x0 P w (w0 ++ [s]) ls (.v (sD s)) (.v (.list ls)) y4 y5 (by rw [he]; omega) p1 (by rw [he, Nat.pow_succ]; simp only [List.length_nil] at l1; omega)
    refine ⟨us', z2, z3, z4, z5, ?_, by rw [he] at l2; rw [List.length_cons, show w0.length + (w.length + 1) = w0.length + 1 + w.length by omega]; exact l2, by rw [List.append_assoc] at p2; exact p2⟩
    rw [List.map_cons]
    unfold loopD
    show bnd (sSeq _ _ [x0, .v (.list us), .v (sD s), x3, x4, x5]) _ P = _
    have hb := sSeq_nx (s1 := sSet 3 (dLst aNil)) (env := [x0, .v (.list us), .v (sD s), x3, x4, x5]) (P := P) (sSet_ok (dLst_ok aNil_ok (Nat.le_of_ble_eq_true rfl))) (sSeq_nx (sFor_ok (itD_list (dVar_v (i := 1) rfl)) q1) (sSet_ok (i := 1) (dVar_v (i := 3) rfl)))
    rw [bnd_ok hb]
    exact q2
theorem settled_ok (w : List Sg) (h : w.length ≤ 12) (P : Pen) : ∃ us, den__law_settled [.v (.str (wordS w))] P = .ok (.list us) P ∧ us.length ≤ 4096 ∧ ∀ y ∈ us, Wi w y := by
  obtain ⟨us, y2, y3, y4, y5, q, l, p⟩ := outer_ok (.v (.str (wordS w))) P w [] [.str (wordS [])] .un .un .un .un (by simpa using h) (fun y hy => by
    rcases List.mem_singleton.mp hy with rfl
    exact ⟨[], rfl, .nil⟩) (by decide)
  refine ⟨us, denOf_rt (sSeq_nx (sSet_ok (dLst_ok (aCons_ok dC_ok aNil_ok) (Nat.le_of_ble_eq_true rfl))) (sSeq_nx (sFor_ok (itD_str (dVar_v rfl)) (by rw [signs_wordS]; exact q)) (sRet_ok (dVar_v rfl)))), ?_, p⟩
  have : (2 : Nat) ^ w.length ≤ 2 ^ 12 := Nat.pow_le_pow_right (by decide) h
  have e : (2 : Nat) ^ 12 = 4096 := rfl
  simp only [List.length_nil, Nat.zero_add] at l
  omega
end Tk
end
section
set_option Elab.async false
set_option linter.all false
set_option autoImplicit false
set_option maxRecDepth 100000
set_option maxHeartbeats 2000000
/-! M12: things near nets. -/
namespace Tk
open PySem Vl L2 TL

/-- a small thing: shown in few signs -/
structure Gx (k n : Nat) (d : D) : Prop where
  sm : Sm d
  dp : d.depth ≤ k
  w : wt d ≤ n
/-- small items -/
structure Gl (k n : Nat) (ds : List D) : Prop where
  sm : Sms ds
  dp : PyData.depthAll ds ≤ k
  w : wts ds ≤ n
theorem Gl.nil (k n : Nat) : Gl k n [] := ⟨trivial, by simp [PyData.depthAll], Nat.zero_le _⟩
theorem Gl.cons {k n m s : Nat} {d : D} {ds : List D} (h : Gx k n d) (h2 : Gl k m ds) (hs : n + m + 2 ≤ s := by omega) : Gl k s (d :: ds) :=
  ⟨⟨h.sm, h2.sm⟩, by have a := h.dp; have b := h2.dp; simp [PyData.depthAll]; omega, by have a := h.w; have b := h2.w; show wt d + 2 + wts ds ≤ s; omega⟩
theorem Gl.tup {k n m : Nat} {ds : List D} (h : Gl k n ds) (hm : n + 4 ≤ m := by omega) : Gx (k + 1) m (.tuple ds) := ⟨h.sm, by have a := h.dp; simp [PyData.depth]; exact a, by have a := h.w; show 4 + wts ds ≤ m; omega⟩
theorem Gl.lst {k n m : Nat} {ds : List D} (h : Gl k n ds) (hm : n + 4 ≤ m := by omega) : Gx (k + 1) m (.list ds) := ⟨h.sm, by have a := h.dp; simp [PyData.depth]; exact a, by have a := h.w; show 4 + wts ds ≤ m; omega⟩
theorem Gx.mono {k n k2 n2 : Nat} {d : D} (h : Gx k n d) (hk : k ≤ k2 := by omega) (hn : n ≤ n2 := by omega) : Gx k2 n2 d := ⟨h.sm, Nat.le_trans h.dp hk, Nat.le_trans h.w hn⟩
theorem Gl.mono {k n k2 n2 : Nat} {d : List D} (h : Gl k n d) (hk : k ≤ k2 := by omega) (hn : n ≤ n2 := by omega) : Gl k2 n2 d := ⟨h.sm, Nat.le_trans h.dp hk, Nat.le_trans h.w hn⟩
theorem sms_app : ∀ {a b : List D}, Sms a → Sms b → Sms (a ++ b)
  | [], _, _, h => h
  | _ :: _, _, ⟨h1, h2⟩, h => ⟨h1, sms_app h2 h⟩
theorem wts_app : ∀ (a b : List D), wts (a ++ b) = wts a + wts b
  | [], b => by simp [wts]
  | x :: a, b => by show wt x + 2 + wts (a ++ b) = wt x + 2 + wts a + wts b; rw [wts_app a b]; omega
theorem dps_app : ∀ (a b : List D), PyData.depthAll (a ++ b) = max (PyData.depthAll a) (PyData.depthAll b)
  | [], b => by simp [PyData.depthAll]
  | x :: a, b => by simp only [List.cons_append, PyData.depthAll]; rw [dps_app a b]; omega
theorem Gl.app {k n m s : Nat} {a b : List D} (h : Gl k n a) (h2 : Gl k m b) (hs : n + m ≤ s := by omega) : Gl k s (a ++ b) :=
  ⟨sms_app h.sm h2.sm, by rw [dps_app]; have := h.dp; have := h2.dp; omega, by rw [wts_app]; have := h.w; have := h2.w; omega⟩
theorem Gl.rep {k n : Nat} {a : List D} (h : Gl k n a) : ∀ (c : Nat), Gl k (c * n) (List.replicate c a).flatten
  | 0 => (Gl.nil k 0).mono (by omega) (by omega)
  | c + 1 => by
    rw [List.replicate_succ]; rw [List.flatten_cons]
    exact h.app (Gl.rep h c) (by rw [Nat.succ_mul]; omega)
theorem gx_int {i : Int} {n : Nat} (h : i.natAbs + 2 ≤ n) (h2 : i.natAbs ≤ 1000000 := by omega) : Gx 0 n (.int i) := ⟨h2, by simp [PyData.depth], h⟩
theorem gx_nat (a : Nat) {n : Nat} (h : a + 2 ≤ n) (h2 : a ≤ 1000000 := by omega) : Gx 0 n (.int (a : Int)) := gx_int (by omega) (by omega)
theorem gx_bool (b : Bool) : Gx 0 5 (.bool b) := ⟨trivial, by simp [PyData.depth], Nat.le_refl _⟩
theorem gx_none : Gx 0 4 .none := ⟨trivial, by simp [PyData.depth], Nat.le_refl _⟩
theorem gx_dict : Gx 1 2 (.dict []) := ⟨rfl, by simp [PyData.depth, PyData.depthKv], Nat.le_refl _⟩
theorem gx_str (s : Str) {n : Nat} (h : s.cps.toList.all (fun c => decide (c < 1114112)) = true) (h2 : 10 * s.length + 2 ≤ n) : Gx 0 n (.str s) := ⟨fun c hc => of_decide_eq_true (List.all_eq_true.mp h c hc), by simp [PyData.depth], h2⟩
theorem Gate.gx (g : Gate) {own b : Nat} (h : g.fits own) (hb : own ≤ 1000) : Gx 1 (2 * own + 60) g.d := by
  cases g with
  | con c => cases c
             · exact (Gl.tup (Gl.cons (gx_str "0" (n := 12) rfl (Nat.le_of_ble_eq_true rfl)) (Gl.nil 0 0) (s := 14)) (m := 2 * own + 60))
             · exact (Gl.tup (Gl.cons (gx_str "1" (n := 12) rfl (Nat.le_of_ble_eq_true rfl)) (Gl.nil 0 0) (s := 14)) (m := 2 * own + 60))
  | neg a =>
    have h : a < own := h
    exact (Gl.tup (Gl.cons (gx_str "not" (n := 32) rfl (Nat.le_of_ble_eq_true rfl)) (Gl.cons (gx_nat a (n := own + 2) (by omega)) (Gl.nil 0 0) (s := own + 4)) (s := own + 38)) (m := 2 * own + 60))
  | bin k a c =>
    have h1 : a < own := h.1
    have h2 : c < own := h.2
    cases k
    · exact (Gl.tup (Gl.cons (gx_str "or" (n := 32) rfl (Nat.le_of_ble_eq_true rfl)) (Gl.cons (gx_nat a (n := own + 2) (by omega)) (Gl.cons (gx_nat c (n := own + 2) (by omega)) (Gl.nil 0 0) (s := own + 4)) (s := 2 * own + 8)) (s := 2 * own + 42)) (m := 2 * own + 60))
    · exact (Gl.tup (Gl.cons (gx_str "and" (n := 32) rfl (Nat.le_of_ble_eq_true rfl)) (Gl.cons (gx_nat a (n := own + 2) (by omega)) (Gl.cons (gx_nat c (n := own + 2) (by omega)) (Gl.nil 0 0) (s := own + 4)) (s := 2 * own + 8)) (s := 2 * own + 42)) (m := 2 * own + 60))
theorem gates_gl : ∀ (gs : List Gate) (own top : Nat), fitsAll gs own → own + gs.length ≤ top → top ≤ 1000 → Gl 1 (gs.length * (2 * top + 62)) (gs.map Gate.d)
  | [], _, _, _, _, _ => (Gl.nil 1 0).mono (by omega) (by omega)
  | g :: gs, own, top, ⟨h1, h2⟩, h3, h4 => by
    rw [List.length_cons] at h3 ⊢
    have ih := gates_gl gs (own + 1) top h2 (by omega) h4
    rw [List.map_cons]
    have e : (gs.length + 1) * (2 * top + 62) = gs.length * (2 * top + 62) + (2 * top + 62) := Nat.succ_mul _ _
    exact Gl.cons (g.gx (b := 0) h1 (by omega)) ih (by omega)
theorem outs_gl (top : Nat) (h4 : top ≤ 1000) : ∀ (os : List Nat), (∀ o ∈ os, o < top) → Gl 0 (os.length * (top + 4)) (os.map fun (o : Nat) => PyData.int (o : Int))
  | [], _ => (Gl.nil 0 0).mono (by omega) (by omega)
  | o :: os, h => by
    have ho := h o List.mem_cons_self
    have ih := outs_gl top h4 os fun z hz => h z (List.mem_cons_of_mem _ hz)
    rw [List.map_cons, List.length_cons]
    have e : (os.length + 1) * (top + 4) = os.length * (top + 4) + (top + 4) := Nat.succ_mul _ _
    exact Gl.cons (gx_nat o (n := top + 2) (by omega)) ih (by omega)
/-- what is small may be looked at -/
theorem wts_len : ∀ ds : List D, 2 * ds.length ≤ wts ds
  | [] => Nat.le_refl _
  | d :: ds => by have := wts_len ds; show 2 * (ds.length + 1) ≤ wt d + 2 + wts ds; omega
theorem wt_mem : ∀ {ds : List D} {d : D}, d ∈ ds → wt d ≤ wts ds
  | [], _, h => nomatch h
  | x :: ds, d, h => by
    rcases (List.mem_cons.mp h) with rfl | h
    · show wt d ≤ wt d + 2 + wts ds; omega
    · have := wt_mem h; show wt d ≤ wt x + 2 + wts ds; omega
theorem Gx.fine {k n : Nat} {d : D} (h : Gx k n d) (hn : n ≤ 100000) : Fine d := ⟨fun a gs os e => by
  subst e
  have hw := h.w
  have e : wt (.tuple [a, .tuple gs, os]) = 4 + (wt a + 2 + ((4 + wts gs) + 2 + (wt os + 2 + 0))) := rfl
  rw [e] at hw
  have h1 := wts_len gs
  refine ⟨by omega, fun g hg xs eg => ?_⟩
  subst eg
  have h2 := wt_mem hg
  have e2 : wt (.tuple xs) = 4 + wts xs := rfl
  have h3 := wts_len xs
  omega⟩
theorem Gx.repr {k n : Nat} {d : D} (h : Gx k n d) (hk : k ≤ 64) (hn : n ≤ 100000) : gRepr [d] = some (.str d.shown) := repr_ok d h.sm (Nat.le_trans h.dp hk) (Nat.le_trans h.w (by omega))
theorem o_addT {a b : List D} (h : a.length + b.length ≤ 16777216) : dAdd (.tuple a) (.tuple b) = some (.tuple (a ++ b)) := guardD_of (decide_eq_true h)
theorem o_mulT {a : List D} (h : a.length * (33 : Int).toNat ≤ 1000000) : dMul (.tuple a) (.int 33) = some (.tuple (List.replicate (33 : Int).toNat a).flatten) := guardD_of (decide_eq_true ⟨by decide, by decide, h⟩)
end Tk
end
open Tk
local macro_rules | `(tactic| wtm_at "vl evo") => `(tactic| first
  | exact Nat.le_of_ble_eq_true rfl
  | ((with_reducible apply o_addT); (simp only [List.length_map, List.length_cons, List.length_nil, List.length_append] <;> omega))
  | ((with_reducible apply o_mulT); (simp only [List.length_map, show (33 : Int).toNat = 33 from rfl] <;> omega)))
namespace Tk
open PySem Vl L2 TL
theorem Gl.cons' {k k2 n m : Nat} {d : D} {ds : List D} (h : Gx k n d) (h2 : Gl k2 m ds) : Gl (max k k2) (n + m + 2) (d :: ds) :=
  Gl.cons (h.mono (Nat.le_max_left _ _) (Nat.le_refl _)) (h2.mono (Nat.le_max_right _ _) (Nat.le_refl _)) (Nat.le_refl _)
theorem Gl.app' {k k2 n m : Nat} {a b : List D} (h : Gl k n a) (h2 : Gl k2 m b) : Gl (max k k2) (n + m) (a ++ b) :=
  Gl.app (h.mono (Nat.le_max_left _ _) (Nat.le_refl _)) (h2.mono (Nat.le_max_right _ _) (Nat.le_refl _)) (Nat.le_refl _)
theorem Gl.nil' : Gl 0 0 [] := Gl.nil 0 0
theorem Gl.tup' {k n : Nat} {ds : List D} (h : Gl k n ds) : Gx (k + 1) (n + 4) (.tuple ds) := h.tup (Nat.le_refl _)
theorem Gl.lst' {k n : Nat} {ds : List D} (h : Gl k n ds) : Gx (k + 1) (n + 4) (.list ds) := h.lst (Nat.le_refl _)
theorem gx_int' {i : Int} (h2 : Nat.ble i.natAbs 1000000 = true) : Gx 0 (i.natAbs + 2) (.int i) := gx_int (Nat.le_refl _) (Nat.le_of_ble_eq_true h2)
theorem gx_str' (s : Str) (h : s.cps.toList.all (fun c => decide (c < 1114112)) = true) : Gx 0 (10 * s.length + 2) (.str s) := gx_str s h (Nat.le_refl _)
theorem Gx.mono' {k n k2 n2 : Nat} {d : D} (h : Gx k n d) (hk : Nat.ble k k2 = true) (hn : Nat.ble n n2 = true) : Gx k2 n2 d := h.mono (Nat.le_of_ble_eq_true hk) (Nat.le_of_ble_eq_true hn)
end Tk
local macro_rules | `(tactic| wtm_at "vl gx0") => `(tactic| first
  | with_reducible assumption
  | with_reducible exact gx_none | with_reducible exact gx_bool _ | with_reducible exact gx_dict
  | ((with_reducible apply gx_int'); exact rfl) | ((with_reducible apply gx_str'); exact rfl)
  | ((with_reducible apply Gl.tup'); wtm_at "vl gl0") | ((with_reducible apply Gl.lst'); wtm_at "vl gl0"))
local macro_rules | `(tactic| wtm_at "vl gl0") => `(tactic| first
  | with_reducible assumption
  | with_reducible exact Gl.nil'
  | ((with_reducible apply Gl.cons'); wtm_at "vl gx0"; wtm_at "vl gl0")
  | ((with_reducible apply Gl.app'); wtm_at "vl gl0"; wtm_at "vl gl0"))
namespace Tk
open PySem Vl L2 TL
/-- so for all of a list -/
theorem all_cons {R : D → Prop} {x : D} {xs : List D} (h : R x) (h2 : ∀ y ∈ xs, R y) : ∀ y ∈ x :: xs, R y := fun y hy => by
  rcases (List.mem_cons.mp hy) with rfl | hy
  · exact h
  · exact h2 y hy
theorem all_app {R : D → Prop} {xs ys : List D} (h : ∀ y ∈ xs, R y) (h2 : ∀ y ∈ ys, R y) : ∀ y ∈ xs ++ ys, R y := fun y hy => (List.mem_append.mp hy).elim (h y) (h2 y)
theorem all_nil {R : D → Prop} : ∀ y ∈ ([] : List D), R y := fun _ h => nomatch h
end Tk
local macro_rules | `(tactic| wtm_at "vl gall") => `(tactic| first
  | with_reducible exact all_nil
  | ((with_reducible apply all_app); wtm_at "vl gall"; wtm_at "vl gall")
  | ((with_reducible apply all_cons); (· (apply Gx.mono'; (· wtm_at "vl gx0"); (· exact rfl); (· exact rfl))); wtm_at "vl gall"))
section
set_option Elab.async false
set_option linter.all false
set_option autoImplicit false
set_option maxRecDepth 100000
set_option maxHeartbeats 2000000
namespace Tk
open PySem Vl L2 TL
end Tk
end
section
set_option autoImplicit false
set_option maxRecDepth 100000
set_option maxHeartbeats 2000000
/-! M13: bent things. -/
namespace Tk
open PySem Vl L2 TL

/-- texts that may stand in what is bent -/
def bentS : List Str := (["0", "1", "not", "and", "or", "plain", "low", "high", "?", "00", "01", "0?", "10", "11", "1?", "?0", "?1", "??", "000", "001", "00?", "010", "011", "01?", "0?0", "0?1", "0??", "100", "101", "10?", "110", "111", "11?", "1?0", "1?1", "1??", "?00", "?01", "?0?", "?10", "?11", "?1?", "??0", "??1", "???", "0000", "0001", "000?", "0010", "0011", "001?", "00?0", "00?1", "00??", "0100", "0101", "010?", "0110", "0111", "011?", "01?0", "01?1", "01??", "0?00", "0?01", "0?0?", "0?10", "0?11", "0?1?", "0??0", "0??1", "0???", "1000", "1001", "100?", "1010", "1011", "101?", "10?0", "10?1", "10??", "1100", "1101", "110?", "1110", "1111", "111?", "11?0", "11?1", "11??", "1?00", "1?01", "1?0?", "1?10", "1?11", "1?1?", "1??0", "1??1", "1???", "?000", "?001", "?00?", "?010", "?011", "?01?", "?0?0", "?0?1", "?0??", "?100", "?101", "?10?", "?110", "?111", "?11?", "?1?0", "?1?1", "?1??", "??00", "??01", "??0?", "??10", "??11", "??1?", "???0", "???1", "????"] : List String).map Str.ofString
theorem bent_mem {s : Str} (h : bentS.contains s = true) : s ∈ bentS := List.contains_iff_mem.mp h
mutual
/-- what nets are made of -/
def Nv : D → Prop
  | .int i => 0 ≤ i ∧ i < 64
  | .str s => s ∈ bentS
  | .tuple xs => Nvs xs
  | _ => False
def Nvs : List D → Prop
  | [] => True
  | d :: ds => Nv d ∧ Nvs ds
end
theorem Nvs.mem : ∀ {ds : List D} {d : D}, Nvs ds → d ∈ ds → Nv d
  | [], _, _, h => nomatch h
  | x :: ds, d, ⟨h1, h2⟩, h => by
    rcases (List.mem_cons.mp h) with rfl | h
    · exact h1
    · exact Nvs.mem h2 h
theorem Gl.mem : ∀ {k n : Nat} {ds : List D} {d : D}, Gl k n ds → d ∈ ds → Gx k n d
  | k, n, [], _, _, h => nomatch h
  | k, n, x :: ds, d, hl, h => by
    have hs : Sm x ∧ Sms ds := hl.sm
    have hd := hl.dp
    have hw := hl.w
    simp only [PyData.depthAll] at hd
    have hw : wt x + 2 + wts ds ≤ n := hw
    rcases (List.mem_cons.mp h) with rfl | h
    · exact ⟨hs.1, by omega, by omega⟩
    · exact Gl.mem (ds := ds) ⟨hs.2, by omega, by omega⟩ h
theorem Gl.parts {k n : Nat} {a b : List D} (h : Gl k n (a ++ b)) : Gl k (wts a) a ∧ Gl k (wts b) b := by
  induction a generalizing n with
  | nil => exact ⟨(Gl.nil k 0), h.sm, h.dp, Nat.le_refl _⟩
  | cons x a ih =>
    have hs : Sm x ∧ Sms (a ++ b) := h.sm
    have hd := h.dp
    simp only [List.cons_append, PyData.depthAll] at hd
    obtain ⟨h1, h2⟩ := ih (n := wts (a ++ b)) ⟨hs.2, by omega, Nat.le_refl _⟩
    refine ⟨⟨⟨hs.1, h1.sm⟩, ?_, Nat.le_refl _⟩, h2⟩
    have := h1.dp
    simp only [PyData.depthAll]
    omega
theorem wts_take (xs : List D) (j : Nat) : wts (xs.take j) + wts (xs.drop j) = wts xs := by
  rw [← wts_app, List.take_append_drop]
theorem Gl.take {k n : Nat} {xs : List D} (h : Gl k n xs) (j : Nat) : Gl k (wts (xs.take j)) (xs.take j) ∧ Gl k (wts (xs.drop j)) (xs.drop j) := by
  have h' : Gl k n (xs.take j ++ xs.drop j) := by rw [List.take_append_drop]; exact h
  exact h'.parts
theorem wts_rev : ∀ xs : List D, wts xs.reverse = wts xs
  | [] => rfl
  | x :: xs => by rw [List.reverse_cons, wts_app, wts_rev xs]; show wts xs + (wt x + 2 + 0) = wt x + 2 + wts xs; omega
theorem sms_rev : ∀ {xs : List D}, Sms xs → Sms xs.reverse
  | [], h => h
  | x :: xs, ⟨h1, h2⟩ => by rw [List.reverse_cons]; exact sms_app (sms_rev h2) ⟨h1, trivial⟩
theorem dps_rev : ∀ xs : List D, PyData.depthAll xs.reverse = PyData.depthAll xs
  | [] => rfl
  | x :: xs => by rw [List.reverse_cons, dps_app, dps_rev xs]; simp only [PyData.depthAll]; omega
theorem Gl.rev {k n : Nat} {xs : List D} (h : Gl k n xs) : Gl k n xs.reverse := ⟨sms_rev h.sm, by rw [dps_rev]; exact h.dp, by rw [wts_rev]; exact h.w⟩
/-- slices of tuples by places -/
theorem cut_to (xs : List D) (j : Nat) : cutD xs none (some (j : Int)) = xs.take j := by
  unfold cutD
  rw [HT.sIx_none, HT.sIx_nat]
  simp only [Nat.sub_zero, List.drop_zero]
  rcases Nat.le_total j xs.length with h | h
  · rw [Nat.min_eq_left h]
  · rw [Nat.min_eq_right h, List.take_of_length_le h, List.take_of_length_le (Nat.le_refl _)]
theorem cut_from (xs : List D) (j : Nat) : cutD xs (some (j : Int)) none = xs.drop j := by
  unfold cutD
  rw [HT.sIx_none, HT.sIx_nat]
  rcases Nat.le_total j xs.length with h | h
  · rw [Nat.min_eq_left h, List.take_of_length_le (by rw [List.length_drop]; exact Nat.le_refl _)]
  · rw [Nat.min_eq_right h, Nat.sub_self, List.take_zero, List.drop_of_length_le h]
theorem cut_mid (xs : List D) (j : Nat) : cutD xs (some (j : Int)) (some ((j : Int) + 1)) = (xs.drop j).take 1 := by
  unfold cutD
  rw [show (j : Int) + 1 = ((j + 1 : Nat) : Int) by rw [Int.natCast_add]; rfl, HT.sIx_nat, HT.sIx_nat]
  rcases Nat.lt_or_ge j xs.length with h | h
  · rw [Nat.min_eq_left (by omega), Nat.min_eq_left (by omega), show j + 1 - j = 1 by omega]
  · rw [Nat.min_eq_right h, Nat.min_eq_right (by omega), Nat.sub_self, List.drop_of_length_le h, List.drop_of_length_le (Nat.le_refl _)]
    rfl
def someL : List D := [.none, .bool true, .bool false, .int 0, .int 1, .int (-1), .int 2, .int 7, .str "a", .str "", .str "?", .str "01", .tuple [], .list [], .dict [], .tuple [.int 0], .tuple [.str "0"], .tuple [.none], .list [.int 0], .str "and"]
theorem someL_gx : ∀ x ∈ someL, Gx 2 2000 x := by
  unfold someL
  wtm_at "vl gall"
theorem str_of_int : ∀ i : Int, 0 ≤ i → i < 64 → Gx 0 40 (.str (Str.ofString (toString i))) ∧ i.natAbs.log2 < 1920 := by
  have h : ((List.range 64).all fun i => ((Str.ofString (toString (i : Int))).cps.toList.all fun c => decide (c < 1114112)) && decide (10 * (Str.ofString (toString (i : Int))).length + 2 ≤ 40)) = true := by kernel_rfl
  intro i h0 h1
  obtain ⟨j, rfl⟩ := (Int.eq_ofNat_of_zero_le h0)
  have hj := List.all_eq_true.mp h j (List.mem_range.mpr (by omega))
  rw [Bool.and_eq_true] at hj
  refine ⟨gx_str _ hj.1 (of_decide_eq_true hj.2), ?_⟩
  show (Int.natAbs (j : Int)).log2 < 1920
  rw [Int.natAbs_natCast]
  have := Nat.log2_le_self j
  omega
end Tk
end
section
set_option autoImplicit false
set_option maxRecDepth 100000
set_option maxHeartbeats 4000000
/-! M14: bent things, the drawing. -/
namespace Tk
open PySem Vl L2 TL

section
variable {tb : List (Addr × Str)} {m : Nat} {P : Pen}
theorem pick_ok {k n : Nat} (g : Gd tb (m + 1) P) (xs : List D) (h0 : 0 < xs.length) (h1 : xs.length < 1073741824) (h : ∀ x ∈ xs, Gx k n x) : ∃ d P', den__law_one_of [.pen, .v (.list xs)] P = .ok d P' ∧ Gx k n d ∧ Gd tb m P' := by
  obtain ⟨d, P', q, hd, g'⟩ := one_of_list g xs h0 h1
  exact ⟨d, P', q, h d hd, g'⟩
/-- the five texts, each sign: what may come of them -/
def strAlts (s : Str) (j : Nat) : List D := [.str (cutS s none (some (j : Int)) ++ cutS s (some ((j : Int) + 1)) none), .str (s ++ ⟨#[s.cps.toList.getD j 0]⟩), .str (Txt.sliceBy s none none (-1, (0 : Tok))), .str (Txt.upper s), .list (signs s)]
def chk (s : Str) (j : Nat) : Bool := (((cutS s none (some (j : Int)) ++ cutS s (some ((j : Int) + 1)) none).cps.toList.all fun c => decide (c < 1114112)) && (decide (10 * (cutS s none (some (j : Int)) ++ cutS s (some ((j : Int) + 1)) none).length + 2 ≤ 2000) &&
      (((s ++ ⟨#[s.cps.toList.getD j 0]⟩).cps.toList.all fun c => decide (c < 1114112)) && (decide (10 * (s ++ (⟨#[s.cps.toList.getD j 0]⟩ : Str)).length + 2 ≤ 2000) && (((Txt.sliceBy s none none (-1, (0 : Tok))).cps.toList.all fun c => decide (c < 1114112)) && (decide (10 * (Txt.sliceBy s none none (-1, (0 : Tok))).length + 2 ≤ 2000) &&
      (((Txt.upper s).cps.toList.all fun c => decide (c < 1114112)) && (decide (10 * (Txt.upper s).length + 2 ≤ 2000) && ((s.cps.toList.all fun c => decide (c < 1114112)) && decide (s.length ≤ 10))))))))))
theorem chk_all : (bentS.all fun s => decide (1 ≤ s.length) && decide (s.length ≤ 5) && (List.range s.length).all (chk s)) = true := by kernel_rfl
theorem strAlts_gx (s : Str) (hs : s ∈ bentS) (j : Nat) (hj : j < s.length) : ∀ x ∈ strAlts s j, Gx 2 2000 x := by
  have one : ∀ (s : Str) (j : Nat), chk s j = true → ∀ x ∈ strAlts s j, Gx 2 2000 x := by
    intro s j h
    simp only [chk, Bool.and_eq_true] at h
    obtain ⟨a1, a2, b1, b2, c1, c2, d1, d2, e1, e2⟩ := h
    unfold strAlts
    have hl : Gl 0 (s.length * 14) (signs s) := by
      have : ∀ cs : List Nat, (cs.all fun c => decide (c < 1114112)) = true → Gl 0 (cs.length * 14) (cs.map signD) := by
        intro cs
        induction cs with
        | nil => exact fun _ => (Gl.nil 0 0).mono (by omega) (by omega)
        | cons c cs ih =>
          intro h
          rw [List.all_cons] at h; rw [Bool.and_eq_true] at h
          rw [List.map_cons, List.length_cons]
          have e : (cs.length + 1) * 14 = cs.length * 14 + 14 := Nat.succ_mul _ _
          exact Gl.cons (gx_str ⟨#[c]⟩ (n := 12) (by show ([c].all fun c => decide (c < 1114112)) = true; rw [List.all_cons, h.1]; rfl) (Nat.le_refl 12)) (ih h.2) (by omega)
      have t := this s.cps.toList e1
      rw [show s.cps.toList.length = s.length by simp [Str.length]] at t
      exact t
    have e2 := of_decide_eq_true e2
    refine all_cons ((gx_str _ a1 (of_decide_eq_true a2)).mono (by omega) (by omega)) (all_cons ((gx_str _ b1 (of_decide_eq_true b2)).mono (by omega) (by omega)) (all_cons ((gx_str _ c1 (of_decide_eq_true c2)).mono (by omega) (by omega)) (all_cons ((gx_str _ d1 (of_decide_eq_true d2)).mono (by omega) (by omega)) (all_cons ?_ all_nil))))
    exact (hl.lst' ).mono (by omega) (by omega)
  refine one s j ?_
  have h := List.all_eq_true.mp chk_all s hs
  simp only [Bool.and_eq_true, id] at h
  exact List.all_eq_true.mp h.2 j (List.mem_range.mpr hj)
theorem five_len {s : Str} (hs : s ∈ bentS) : 1 ≤ s.length ∧ s.length ≤ 5 := by
  have h := List.all_eq_true.mp chk_all s hs
  simp only [Bool.and_eq_true, id] at h
  exact ⟨of_decide_eq_true h.1.1, of_decide_eq_true h.1.2⟩
abbrev strList : Vl.Env → M D := dLst (aCons (d2 dAdd (dSlice (bVar 1) dNoPart (dPart (bVar 3))) (dSlice (bVar 1) (dPart (d2 dAdd (bVar 3) (dC (.int 1)))) dNoPart)) (aCons (d2 dAdd (bVar 1) (d2 dIxA (bVar 1) (bVar 3))) (aCons (d1 dRev (bVar 1)) (aCons (dMA msUpper (bVar 1) aNil) (aCons (dB gList (aCons (bVar 1) aNil)) aNil)))))
theorem strList_ok (x0 x2 x4 : SV) (s : Str) (hs : s ∈ bentS) (j : Nat) (hj : j < s.length) (P : Pen) : strList [x0, .v (.str s), x2, .v (.int (j : Int)), x4] P = .ok (.list (strAlts s j)) P := by
  have hl := five_len hs
  have sl : ∀ l u, dSl (.str s) l u = some (.str (cutS s l u)) := fun l u => if_pos (by omega)
  have cl : ∀ l u, (cutS s l u).length ≤ 5 := fun l u => by
    show ((s.cps.toList.drop _).take _).toArray.size ≤ 5
    rw [List.size_toArray, List.length_take, List.length_drop]
    have : s.cps.toList.length = s.length := by simp [Str.length]
    omega
  have ad : ∀ a b : Str, a.length ≤ 5 → b.length ≤ 5 → dAdd (.str a) (.str b) = some (.str (a ++ b)) := fun a b ha hb => guardD_of (decide_eq_true (by omega))
  have hix : dIxA (.str s) (.int (j : Int)) = some (.str ⟨#[s.cps.toList.getD j 0]⟩) := by
    show (if s.length ≤ 16777216 then _ else none) = _
    rw [if_pos (by omega)]
    have hj' : j < s.cps.toList.length := by rw [show s.cps.toList.length = s.length by simp [Str.length]]; exact hj
    rw [show L2.atI s.cps.toList (j : Int) = some (s.cps.toList.getD j 0) from L2.atI_nat (j := j) (by rw [List.getD_eq_getElem?_getD, List.getElem?_eq_getElem hj']; rfl)]
    rfl
  refine dLst_ok (aCons_ok (d2_ok (dSlice_ok (bVar_v rfl) dNoPart_ok (dPart_ok (bVar_v rfl)) (sl _ _)) (dSlice_ok (bVar_v rfl) (dPart_ok (d2_ok (bVar_v rfl) dC_ok rfl)) dNoPart_ok (sl _ _)) (ad _ _ (cl _ _) (cl _ _)))
    (aCons_ok (d2_ok (bVar_v rfl) (d2_ok (bVar_v rfl) (bVar_v rfl) hix) (ad _ _ (by omega) (Nat.le_of_ble_eq_true rfl))) (aCons_ok (d1_ok (bVar_v rfl) (show dRev (.str s) = some _ from if_pos (by omega))) (aCons_ok (dMA_ok (bVar_v rfl) rfl aNil_ok (show mUpper (.str s) [] = some _ from if_pos (by omega))) (aCons_ok (dB_ok (aCons_ok (bVar_v rfl) aNil_ok) (show gList [.str s] = some _ from if_pos (by omega))) aNil_ok))))) (Nat.le_of_ble_eq_true rfl)
end
end Tk
end
section
set_option autoImplicit false
set_option maxRecDepth 100000
set_option maxHeartbeats 4000000
/-! M15: bent things: the def. -/
namespace Tk
open PySem Vl L2 TL

theorem Gx.untup {k n : Nat} {xs : List D} (h : Gx k n (.tuple xs)) : ∃ k', k = k' + 1 ∧ Gl k' (wts xs) xs ∧ 4 + wts xs ≤ n := by
  have hd := h.dp
  simp only [PyData.depth] at hd
  obtain ⟨k', rfl⟩ : ∃ k', k = k' + 1 := ⟨k - 1, by omega⟩
  exact ⟨k', rfl, ⟨h.sm, by omega, Nat.le_refl _⟩, h.w⟩
theorem take_cons_drop {xs : List D} {j : Nat} {x : D} (h : xs[j]? = some x) : xs = xs.take j ++ x :: xs.drop (j + 1) := by
  obtain ⟨hj, e⟩ := List.getElem?_eq_some_iff.mp h
  rw [← e, ← List.drop_eq_getElem_cons hj, List.take_append_drop]
section
variable {tb : List (Addr × Str)}
theorem bent_ok : ∀ (f k n : Nat) (d : D) (m : Nat) (P : Pen), k < f → Nv d → Gx k n d → n ≤ 100000 → Gd tb (m + 4 * f) P →
    ∃ y P', den__law_bent f [.pen, .v d] P = .ok y P' ∧ Gx (k + 2) (12 * n + 2000) y ∧ Gd tb m P'
  | 0, _, _, _, _, _, h, _, _, _, _ => absurd h (by omega)
  | f + 1, k, n, d, m, P, hk, hv, hx, hn, g => by
    obtain ⟨v, P1, q1, v0, v1, g1⟩ := take_ok (tb := tb) (n := m + 4 * f + 3) (g.mono (by omega)) 9 (by decide)
    -- one of the written things
    have some1 : ∀ (e : Vl.Env) (m' : Nat) (P1 : Pen), e[0]? = some .pen → e[2]? = some (.v (.list someL)) → Gd tb (m' + 1) P1 → m ≤ m' → ∃ y P', dPen 0 2 den__law_one_of (aCons (dVar 2) aNil) e P1 = .ok y P' ∧ Gx (k + 2) (12 * n + 2000) y ∧ Gd tb m P' := by
      intro e m' P1 he h2 g1 hm
      obtain ⟨y, P', q, hy, g'⟩ := pick_ok g1 someL (by decide) (by decide) someL_gx
      exact ⟨y, P', dPen_ok1 he (dVar_v h2) q, hy.mono (by omega) (by omega), g'.mono hm⟩
    have fin : ∀ {y : D} {P' : Pen}, (∃ y P', b__law_bent (den__law_bent f) [.pen, .v d, .un, .un, .un] P = .ok (.rt y) P' ∧ Gx (k + 2) (12 * n + 2000) y ∧ Gd tb m P') → ∃ y P', den__law_bent (f + 1) [.pen, .v d] P = .ok y P' ∧ Gx (k + 2) (12 * n + 2000) y ∧ Gd tb m P' := fun ⟨y, P', q, r⟩ => ⟨y, P', denOf_rt q, r⟩
    refine fin (y := .none) (P' := P) ?_
    have set2 : ∀ (e : Vl.Env) (P : Pen), dLst (aCons (dC .none) (aCons (dC (.bool true)) (aCons (dC (.bool false)) (aCons (dC (.int 0)) (aCons (dC (.int 1)) (aCons (dC (.int (-1))) (aCons (dC (.int 2)) (aCons (dC (.int 7)) (aCons (dC (.str "a")) (aCons (dC (.str "")) (aCons (dC (.str "?")) (aCons (dC (.str "01")) (aCons (dTup aNil) (aCons (dLst aNil) (aCons (dC (.dict [])) (aCons (dTup (aCons (dC (.int 0)) aNil)) (aCons (dTup (aCons (dC (.str "0")) aNil)) (aCons (dTup (aCons (dC .none) aNil)) (aCons (dLst (aCons (dC (.int 0)) aNil)) (aCons (dC (.str "and")) aNil)))))))))))))))))))) e P = .ok (.list someL) P := fun e P => rfl
    by_cases hz : v = 0
    · subst hz
      obtain ⟨y, P', q, r⟩ := some1 [.pen, .v d, .v (.list someL), .un, .un] (m + 4 * f + 2) P1 rfl rfl g1 (by omega)
      have ht : tV (d2 dEqA (dPen 0 2 den__law_take (aCons (dC (.int 9)) aNil)) (dC (.int 0))) [.pen, .v d, .v (.list someL), .un, .un] P = .ok true P1 := tV_ok (d2_ok (dPen_ok1 rfl dC_ok q1) dC_ok rfl)
      refine ⟨y, P', sSeq_nx (sSet_ok (set2 _ _)) (sSeq_rt (sIf_t (?_ : _ = R.ok true P1) (sRet_ok q))), r⟩
      cases d with
      | int i => exact mOr_f (by wtm_at "vl evc") (mOr_f (by wtm_at "vl evc") ht)
      | str s => exact mOr_f (by wtm_at "vl evc") (mOr_f (by wtm_at "vl evc") ht)
      | tuple xs => exact mOr_f (by wtm_at "vl evc") (mOr_f (by wtm_at "vl evc") ht)
      | none | bool _ | list _ | dict _ => exact hv.elim
    · have ht : tV (d2 dEqA (dPen 0 2 den__law_take (aCons (dC (.int 9)) aNil)) (dC (.int 0))) [.pen, .v d, .v (.list someL), .un, .un] P = .ok false P1 := tV_ok (d2_ok (dPen_ok1 rfl dC_ok q1) dC_ok (show dEqA (.int v) (.int 0) = some (.bool false) by rw [o_eqI, decide_eq_false hz]))
      cases d with
      | int i =>
        have hi : 0 ≤ i ∧ i < 64 := hv
        obtain ⟨hs, hlog⟩ := str_of_int i hi.1 hi.2
        have wi : i.natAbs + 2 ≤ n := hx.w
        have hv3 : ∃ z, vIf (tV (dChain dLe dLt (dC (.int 0)) (bVar 1) (dC (.int 2)))) (d2 dEqA (bVar 1) (dC (.int 1))) (dC .none) [.pen, .v (.int i), .v (.list someL), .un, .un] P1 = .ok z P1 ∧ Gx 0 5 z := by
          have c1 : dLe (.int 0) (.int i) = some (.bool true) := by rw [o_le, decide_eq_true hi.1]
          by_cases h2 : i < 2
          · exact ⟨_, vIf_t (tV_ok (dChain_t dC_ok (bVar_v rfl) c1 dC_ok (show dLt (.int i) (.int 2) = some (.bool true) by rw [o_lt, decide_eq_true h2]))) (d2_ok (bVar_v rfl) dC_ok o_eqI), gx_bool _⟩
          · exact ⟨_, vIf_f (tV_ok (dChain_t dC_ok (bVar_v rfl) c1 dC_ok (show dLt (.int i) (.int 2) = some (.bool false) by rw [o_lt, decide_eq_false h2]))) dC_ok, gx_none.mono (by omega) (by omega)⟩
        obtain ⟨z, qz, gz⟩ := hv3
        have hstr : gStr [.int i] = some (.str (Str.ofString (toString i))) := if_pos hlog
        have g5 : Gx 0 200 (.int (i + 9)) := gx_int (by omega) (by omega)
        have g6 : Gx 0 200 (.int (i + 1)) := gx_int (by omega) (by omega)
        obtain ⟨y, P', q, hy, g'⟩ := pick_ok (k := 2) (n := 2000) (m := m + 4 * f + 2) g1 [.int (i + 1), .int (-1), z, .str (Str.ofString (toString i)), .int (i + 9)] (Nat.le_of_ble_eq_true rfl) (Nat.le_of_ble_eq_true rfl) (by wtm_at "vl gall")
        refine ⟨y, P', sSeq_nx (sSet_ok (set2 _ _)) (sSeq_nx (sIf_f (P1 := P1) (mOr_f (by wtm_at "vl evc") (mOr_f (by wtm_at "vl evc") ht)) sNil_ok) (sSeq_rt (sIf_t (by wtm_at "vl evc") (sRet_ok (dPen_ok1 rfl ?_ q))))), hy.mono (by omega) (by omega), g'.mono (by omega)⟩
        exact dLst_ok (aCons_ok (d2_ok (bVar_v rfl) dC_ok rfl) (aCons_ok dC_ok (aCons_ok qz (aCons_ok (dB_ok (aCons_ok (bVar_v rfl) aNil_ok) hstr) (aCons_ok (d2_ok (bVar_v rfl) dC_ok rfl) aNil_ok))))) (Nat.le_of_ble_eq_true rfl)
      | str s =>
        have hs : s ∈ bentS := hv
        have l3 := five_len hs
        have hl : gLen [.str s] = some (.int (s.length : Int)) := if_pos (by omega)
        obtain ⟨a, P2, q2, a0, a1, g2⟩ := take_ok (tb := tb) (n := m + 4 * f + 2) g1 (s.length : Int) (by omega)
        obtain ⟨b, P3, q3, b0, b1, g3⟩ := take_ok (tb := tb) (n := m + 4 * f + 1) g2 16 (by decide)
        obtain ⟨j, rfl⟩ := Int.eq_ofNat_of_zero_le a0
        have hj : j < s.length := by omega
        obtain ⟨y, P', q, hy, g'⟩ := pick_ok (k := 2) (n := 2000) (m := m + 4 * f) g3 (strAlts s j) (Nat.le_of_ble_eq_true rfl) (Nat.le_of_ble_eq_true rfl) (strAlts_gx s hs j hj)
        refine ⟨y, P', sSeq_nx (sSet_ok (set2 _ _)) (sSeq_nx (sIf_f (P1 := P1) (mOr_f (by wtm_at "vl evc") (mOr_f (by wtm_at "vl evc") ht)) sNil_ok) (sSeq_nx (sIf_f (P1 := P1) (by wtm_at "vl evc") sNil_ok) (sSeq_nx (sIf_f (P1 := P1) (tV_ok (d2_ok (dB_ok (aCons_ok (bVar_v rfl) aNil_ok) hl) dC_ok (show dEqA (.int (s.length : Int)) (.int 0) = some (.bool false) by rw [o_eqI, decide_eq_false (by omega)]))) sNil_ok) (sSeq_nx (sPar2_ok (aCons_ok (dPen_ok1 rfl (dB_ok (aCons_ok (bVar_v rfl) aNil_ok) hl) q2) (aCons_ok (dPen_ok1 rfl dC_ok q3) aNil_ok))) (sSeq_rt (sIf_t (by wtm_at "vl evc") (sRet_ok (dPen_ok1 rfl (strList_ok _ _ _ s hs j hj P3) q)))))))), hy.mono (by omega) (by omega), g'.mono (by omega)⟩
      | tuple xs =>
        obtain ⟨k', rfl, hgl, hw⟩ := hx.untup
        have hnv : Nvs xs := hv
        have h0 : sIf (mOr (tTru (dIsi "bool" (bVar 1))) (mOr (mNot (tTru (dIsiT ["int", "tuple", "str"] (bVar 1)))) (tV (d2 dEqA (dPen 0 2 den__law_take (aCons (dC (.int 9)) aNil)) (dC (.int 0)))))) (sRet (dPen 0 2 den__law_one_of (aCons (dVar 2) aNil))) sNil [.pen, .v (.tuple xs), .v (.list someL), .un, .un] P = .ok (.nx [.pen, .v (.tuple xs), .v (.list someL), .un, .un]) P1 := sIf_f (P1 := P1) (mOr_f (by wtm_at "vl evc") (mOr_f (by wtm_at "vl evc") ht)) sNil_ok
        cases hxs : xs with
        | nil =>
          subst hxs
          obtain ⟨y, P', q, r⟩ := some1 [.pen, .v (.tuple []), .v (.list someL), .un, .un] (m + 4 * f + 2) P1 rfl rfl g1 (by omega)
          exact ⟨y, P', sSeq_nx (sSet_ok (set2 _ _)) (sSeq_nx h0 (sSeq_nx (sIf_f (P1 := P1) (by wtm_at "vl evc") sNil_ok) (sSeq_rt (sIf_t (by wtm_at "vl evc") (sRet_ok q))))), r⟩
        | cons x0 r0 =>
          rw [← hxs]
          have hpos : 0 < xs.length := by rw [hxs, List.length_cons]; omega
          have hlen2 := wts_len xs
          obtain ⟨a, P2, q2, a0, a1, g2⟩ := take_ok (tb := tb) (n := m + 4 * f + 2) g1 (xs.length : Int) (by omega)
          obtain ⟨b, P3, q3, b0, b1, g3⟩ := take_ok (tb := tb) (n := m + 4 * f + 1) g2 16 (by decide)
          obtain ⟨j, rfl⟩ := Int.eq_ofNat_of_zero_le a0
          have hj : j < xs.length := by omega
          have hgx : xs[j]? = some xs[j] := List.getElem?_eq_getElem hj
          have hix : dIxA (.tuple xs) (.int (j : Int)) = some xs[j] := L2.atI_nat hgx
          have hsplit := take_cons_drop hgx
          have hwt : wts xs = wts (xs.take j) + (wt xs[j] + 2 + wts (xs.drop (j + 1))) := by
            conv => lhs; rw [hsplit]
            rw [wts_app]; rfl
          obtain ⟨gt, gd⟩ := hgl.take j
          obtain ⟨_, gd1⟩ := hgl.take (j + 1)
          have c1 : dSl (.tuple xs) none (some (j : Int)) = some (.tuple (xs.take j)) := by show some (PyData.tuple (cutD _ _ _)) = _; rw [cut_to]
          have c2 : dSl (.tuple xs) (some ((j : Int) + 1)) none = some (.tuple (xs.drop (j + 1))) := by show some (PyData.tuple (cutD _ _ _)) = _; rw [show (j : Int) + 1 = ((j + 1 : Nat) : Int) by rw [Int.natCast_add]; rfl, cut_from]
          have c3 : dSl (.tuple xs) (some (j : Int)) none = some (.tuple (xs.drop j)) := by show some (PyData.tuple (cutD _ _ _)) = _; rw [cut_from]
          have c4 : dSl (.tuple xs) (some (j : Int)) (some ((j : Int) + 1)) = some (.tuple ((xs.drop j).take 1)) := by show some (PyData.tuple (cutD _ _ _)) = _; rw [cut_mid]
          have lt1 : (xs.take j).length ≤ xs.length := List.length_take_le' ..
          have lt2 : (xs.drop (j + 1)).length ≤ xs.length := by rw [List.length_drop]; omega
          have lt3 : (xs.drop j).length ≤ xs.length := by rw [List.length_drop]; omega
          have lt4 : ((xs.drop j).take 1).length ≤ 1 := by rw [List.length_take]; omega
          have head : ∀ {r : R Fl}, (sSeq (sIf (tTru (dIsi "str" (bVar 1))) (sRet (dPen 0 2 den__law_one_of (aCons strList aNil))) sNil) (sSeq (sIf (tV (d2 dGt (bVar 4) (dC (.int 3)))) (sRet (d2 dAdd (d2 dAdd (dSlice (bVar 1) dNoPart (dPart (bVar 3))) (dTup (aCons (dPen 0 2 (den__law_bent f) (aCons (d2 dIxA (bVar 1) (bVar 3)) aNil)) aNil))) (dSlice (bVar 1) (dPart (d2 dAdd (bVar 3) (dC (.int 1)))) dNoPart))) sNil) (sRet (d2 dIxA (dLst (aCons (d2 dAdd (dSlice (bVar 1) dNoPart (dPart (bVar 3))) (dSlice (bVar 1) (dPart (d2 dAdd (bVar 3) (dC (.int 1)))) dNoPart)) (aCons (d2 dAdd (d2 dAdd (dSlice (bVar 1) dNoPart (dPart (bVar 3))) (dSlice (bVar 1) (dPart (bVar 3)) (dPart (d2 dAdd (bVar 3) (dC (.int 1)))))) (dSlice (bVar 1) (dPart (bVar 3)) dNoPart)) (aCons (dB gList (aCons (bVar 1) aNil)) (aCons (d1 dRev (bVar 1)) aNil))))) (bVar 4))))) [.pen, .v (.tuple xs), .v (.list someL), .v (.int (j : Int)), .v (.int b)] P3 = r → b__law_bent (den__law_bent f) [.pen, .v (.tuple xs), .un, .un, .un] P = r := fun h => sSeq_nx (sSet_ok (set2 _ _)) (sSeq_nx h0 (sSeq_nx (sIf_f (P1 := P1) (by wtm_at "vl evc") sNil_ok) (sSeq_nx (sIf_f (P1 := P1) (tV_ok (d2_ok (dB_ok (aCons_ok (bVar_v rfl) aNil_ok) (glen_tup xs)) dC_ok (show dEqA (.int (xs.length : Int)) (.int 0) = some (.bool false) by rw [o_eqI, decide_eq_false (by omega)]))) sNil_ok) (sSeq_nx (sPar2_ok (aCons_ok (dPen_ok1 rfl (dB_ok (aCons_ok (bVar_v rfl) aNil_ok) (glen_tup xs)) q2) (aCons_ok (dPen_ok1 rfl dC_ok q3) aNil_ok))) h))))
          by_cases hb : 3 < b
          · obtain ⟨y, P', q, hy, g'⟩ := bent_ok f k' (wt xs[j]) xs[j] m P3 (by omega) (hnv.mem (List.getElem_mem hj)) ⟨(hgl.mem (List.getElem_mem hj)).sm, (hgl.mem (List.getElem_mem hj)).dp, Nat.le_refl _⟩ (by omega) (g3.mono (by omega))
            refine ⟨.tuple (xs.take j ++ [y] ++ xs.drop (j + 1)), P', head (sSeq_nx (sIf_f (P1 := P3) (by wtm_at "vl evc") sNil_ok) (sSeq_rt (sIf_t (P1 := P3) (tV_ok (d2_ok (bVar_v rfl) dC_ok (show dGt (.int b) (.int 3) = some (.bool true) by rw [o_gt, decide_eq_true hb]))) (sRet_ok ?_)))), ?_, g'⟩
            · exact d2_ok (d2_ok (dSlice_ok (bVar_v rfl) dNoPart_ok (dPart_ok (bVar_v rfl)) c1) (dTup_ok (aCons_ok (dPen_ok1 rfl (d2_ok (bVar_v rfl) (bVar_v rfl) hix) q) aNil_ok) (Nat.le_of_ble_eq_true rfl)) (o_addT (by rw [List.length_singleton]; omega))) (dSlice_ok (bVar_v rfl) (dPart_ok (d2_ok (bVar_v rfl) dC_ok rfl)) dNoPart_ok c2) (o_addT (by rw [List.length_append, List.length_singleton]; omega))
            · have t1 : Gl (k' + 2) (wts (xs.take j) + (12 * wt xs[j] + 2002)) (xs.take j ++ [y]) := (gt.mono (k2 := k' + 2) (n2 := wts (xs.take j)) (by omega) (Nat.le_refl _)).app (Gl.cons hy (Gl.nil (k' + 2) 0) (s := 12 * wt xs[j] + 2002) (by omega)) (by omega)
              have t2 := t1.app (gd1.mono (k2 := k' + 2) (n2 := wts (xs.drop (j + 1))) (by omega) (Nat.le_refl _)) (s := wts (xs.take j) + (12 * wt xs[j] + 2002) + wts (xs.drop (j + 1))) (by omega)
              exact (t2.tup (m := 12 * n + 2000) (by omega)).mono (by omega) (Nat.le_refl _)
          · have b4 : 0 ≤ b ∧ b < 4 := by omega
            have alts : ∀ x ∈ [PyData.tuple (xs.take j ++ xs.drop (j + 1)), .tuple (xs.take j ++ (xs.drop j).take 1 ++ xs.drop j), .list xs, .tuple xs.reverse], Gx (k' + 1) (12 * n + 2000) x := by
              have e1 : wts (xs.take j) + wts (xs.drop j) = wts xs := wts_take xs j
              have e3 := wts_take (xs.drop j) 1
              refine all_cons ((gt.app gd1 (s := wts xs) (by omega)).tup (m := 12 * n + 2000) (by omega)) (all_cons ?_ (all_cons (hgl.lst (m := 12 * n + 2000) (by omega)) (all_cons (hgl.rev.tup (m := 12 * n + 2000) (by omega)) all_nil)))
              have gmid := (gd.take 1).1
              exact (((gt.app gmid (s := wts (xs.take j) + wts ((xs.drop j).take 1)) (Nat.le_refl _)).app gd (s := wts (xs.take j) + wts ((xs.drop j).take 1) + wts (xs.drop j)) (Nat.le_refl _)).tup (m := 12 * n + 2000) (by omega))
            obtain ⟨y, e, hy⟩ := atI_some (R := Gx (k' + 1) (12 * n + 2000)) alts b4.1 b4.2
            refine ⟨y, P3, head (sSeq_nx (sIf_f (P1 := P3) (by wtm_at "vl evc") sNil_ok) (sSeq_nx (sIf_f (P1 := P3) (tV_ok (d2_ok (bVar_v rfl) dC_ok (show dGt (.int b) (.int 3) = some (.bool false) by rw [o_gt, decide_eq_false hb]))) sNil_ok) (sRet_ok ?_))), hy.mono (by omega) (Nat.le_refl _), g3.mono (by omega)⟩
            refine d2_ok (dLst_ok (aCons_ok (d2_ok (dSlice_ok (bVar_v rfl) dNoPart_ok (dPart_ok (bVar_v rfl)) c1) (dSlice_ok (bVar_v rfl) (dPart_ok (d2_ok (bVar_v rfl) dC_ok rfl)) dNoPart_ok c2) (o_addT (by omega))) (aCons_ok (d2_ok (d2_ok (dSlice_ok (bVar_v rfl) dNoPart_ok (dPart_ok (bVar_v rfl)) c1) (dSlice_ok (bVar_v rfl) (dPart_ok (bVar_v rfl)) (dPart_ok (d2_ok (bVar_v rfl) dC_ok rfl)) c4) (o_addT (by omega))) (dSlice_ok (bVar_v rfl) (dPart_ok (bVar_v rfl)) dNoPart_ok c3) (o_addT (by rw [List.length_append]; omega))) (aCons_ok (dB_ok (aCons_ok (bVar_v rfl) aNil_ok) rfl) (aCons_ok (d1_ok (bVar_v rfl) rfl) aNil_ok)))) (Nat.le_of_ble_eq_true rfl)) (bVar_v rfl) e
      | none | bool _ | list _ | dict _ => exact hv.elim
end
end Tk
end
section
set_option autoImplicit false
set_option maxRecDepth 100000
set_option maxHeartbeats 1000000
/-! N16: all words of so many signs. -/
namespace Tk
open PySem Vl L2 TL

theorem compD2_map {tg : D → Vl.Env → Option Vl.Env} {it1 : Vl.Env → M (List D)} {tg1 : D → Vl.Env → Option Vl.Env} {elt : Vl.Env → M D} {vs1 : List Nat} {env : Vl.Env} {P : Pen} (f : D → D → D) (ds1 : List D) : ∀ (ds : List D) (n : Nat), n + ds.length * ds1.length ≤ 16777216 →
    (∀ d ∈ ds, ∃ e1, tg d env = some e1 ∧ it1 e1 P = .ok ds1 P ∧ ∀ d1 ∈ ds1, ∃ e2, tg1 d1 (wipeE e1 vs1) = some e2 ∧ elt e2 P = .ok (f d d1) P) →
    compD2 tg tsNil it1 tg1 tsNil elt vs1 ds n env P = .ok (ds.flatMap fun d => ds1.map (f d)) P
  | [], _, _, _ => rfl
  | d :: ds, n, hn, h => by
    rw [List.length_cons, Nat.succ_mul] at hn
    obtain ⟨e1, h1, h2, h3⟩ := h d List.mem_cons_self
    have ih := compD2_map (vs1 := vs1) (env := env) (P := P) f ds1 ds (n + ds1.length) (by omega) fun d' hd' => h d' (List.mem_cons_of_mem _ hd')
    have c := compD_map (tg := tg1) (ts := tsNil) (elt := elt) (env := wipeE e1 vs1) (P := P) (fun d1 => some (f d d1)) ds1 n (by omega) fun d1 hd1 => by
      obtain ⟨e2, g1, g2⟩ := h3 d1 hd1
      exact ⟨e2, g1, .inr ⟨_, rfl, rfl, g2⟩⟩
    have e : noEx (tsNil e1) P = .ok true P := rfl
    have e' : noEx (it1 e1) P = .ok ds1 P := by unfold noEx; rw [h2]
    unfold compD2
    rw [h1]
    simp only [bnd_ok e, if_true, bnd_ok e', bnd_ok c, List.filterMap_eq_map', List.length_map, bnd_ok ih, List.flatMap_cons]
    rfl
theorem dComp2_map {it : Vl.Env → M (List D)} {tg : D → Vl.Env → Option Vl.Env} {it1 : Vl.Env → M (List D)} {tg1 : D → Vl.Env → Option Vl.Env} {elt : Vl.Env → M D} {vs vs1 : List Nat} {env : Vl.Env} {P : Pen} {ds : List D} (f : D → D → D) (ds1 : List D) (hi : it env P = .ok ds P) (hn : ds.length * ds1.length ≤ 16777216)
    (h : ∀ d ∈ ds, ∃ e1, tg d (wipeE env vs) = some e1 ∧ it1 e1 P = .ok ds1 P ∧ ∀ d1 ∈ ds1, ∃ e2, tg1 d1 (wipeE e1 vs1) = some e2 ∧ elt e2 P = .ok (f d d1) P) :
    dComp2 it tg tsNil it1 tg1 tsNil elt vs vs1 env P = .ok (.list (ds.flatMap fun d => ds1.map (f d))) P := by
  unfold dComp2
  rw [bnd_ok hi, bnd_ok (compD2_map f ds1 ds 0 (by omega) h)]
  rfl
def allS (bs : List Sg) : Nat → List (List Sg)
  | 0 => [[]]
  | n + 1 => (allS bs n).flatMap fun w => bs.map fun s => w ++ [s]
def wD (w : List Sg) : D := .str (wordS w)
theorem flatMap_len {α β : Type} (g : α → List β) (k : Nat) : ∀ ws : List α, (∀ w ∈ ws, (g w).length = k) → (ws.flatMap g).length = ws.length * k
  | [], _ => by simp
  | w :: ws, h => by
    rw [List.flatMap_cons, List.length_append, h w List.mem_cons_self, flatMap_len g k ws fun w hw => h w (List.mem_cons_of_mem _ hw), List.length_cons, Nat.succ_mul, Nat.add_comm]
theorem allS_len (bs : List Sg) : ∀ n, (allS bs n).length = bs.length ^ n
  | 0 => rfl
  | n + 1 => by
    rw [allS, flatMap_len _ bs.length _ (fun w _ => List.length_map ..), allS_len bs n, Nat.pow_succ]
theorem allS_mem (bs : List Sg) : ∀ n w, w ∈ allS bs n → w.length = n
  | 0, w, h => by rcases List.mem_singleton.mp h with rfl; rfl
  | n + 1, w, h => by
    obtain ⟨v, hv, hw⟩ := List.mem_flatMap.mp h
    obtain ⟨s, _, rfl⟩ := List.mem_map.mp hw
    rw [List.length_append, allS_mem bs n v hv]; rfl
theorem add_sg (u : List Sg) (s : Sg) (h : u.length ≤ 1000) : dAdd (wD u) (sD s) = some (wD (u ++ [s])) := by
  have e : wordS u ++ (⟨#[ch s]⟩ : Str) = wordS (u ++ [s]) := by
    refine ext_tl ?_
    rw [tl_append]
    show (u.map ch).toArray.toList ++ [ch s] = ((u ++ [s]).map ch).toArray.toList
    simp
  show guardD (decide ((wordS u).length + 1 ≤ 16777216)) (.str (wordS u ++ (⟨#[ch s]⟩ : Str))) = _
  rw [guardD_of (decide_eq_true (by rw [wordS_len]; omega)), e]
  rfl
abbrev spBody : Vl.Env → M Fl := sShare 1 (sOwn 1 (dComp2 (itD (dVar 1)) (tgName 3) tsNil (itD (dVar 2)) (tgName 4) tsNil (d2 dAdd (bVar 3) (bVar 4)) [3, 4] [4]))
theorem grown (ws : List (List Sg)) (bs : List Sg) (h : ∀ w ∈ ws, w.length ≤ 1000) : ((ws.map wD).flatMap fun d => (bs.map sD).map fun d1 => (dAdd d d1).getD .none) = (ws.flatMap fun w => bs.map fun s => w ++ [s]).map wD := by
  induction ws with
  | nil => rfl
  | cons w ws ih =>
    rw [List.map_cons, List.flatMap_cons, List.flatMap_cons, List.map_append, ih fun v hv => h v (List.mem_cons_of_mem _ hv)]
    refine congrArg (· ++ _) ?_
    rw [List.map_map]; rw [List.map_map]
    refine List.map_congr_left fun s _ => ?_
    show (dAdd (wD w) (sD s)).getD .none = wD (w ++ [s])
    rw [add_sg w s (h w List.mem_cons_self)]
    rfl
theorem spelled_loop (bs : List Sg) (hb : bs.length ≤ 3) (x0 : SV) (P : Pen) : ∀ (m k : Nat) (x2 x3 x4 : SV), k + m ≤ 8 → ∃ y2 y3 y4, loopD (tgName 2) spBody (List.replicate m (wD bs)) [x0, .own ((allS bs k).map wD), x2, x3, x4] P = .ok (.nx [x0, .own ((allS bs (k + m)).map wD), y2, y3, y4]) P
  | 0, k, x2, x3, x4, _ => ⟨x2, x3, x4, rfl⟩
  | m + 1, k, x2, x3, x4, h => by
    obtain ⟨y2, y3, y4, q⟩ := spelled_loop bs hb x0 P m (k + 1) (.v (wD bs)) x3 x4 (by omega)
    refine ⟨y2, y3, y4, ?_⟩
    rw [List.replicate_succ]
    unfold loopD
    show bnd (spBody [x0, .own ((allS bs k).map wD), .v (wD bs), x3, x4]) _ P = _
    have hl : ((allS bs k).map wD).length * (bs.map sD).length ≤ 16777216 := by
      rw [List.length_map, List.length_map, allS_len]
      have h1 : bs.length ^ k ≤ 3 ^ 8 := Nat.le_trans (Nat.pow_le_pow_left hb k) (Nat.pow_le_pow_right (by decide) (by omega))
      have h2 : bs.length ^ k * bs.length ≤ 3 ^ 8 * 3 := Nat.mul_le_mul h1 hb
      exact Nat.le_trans h2 (by decide)
    have c := dComp2_map (env := [x0, .v (.list ((allS bs k).map wD)), .v (wD bs), x3, x4]) (it := itD (dVar 1)) (tg := tgName 3) (it1 := itD (dVar 2)) (tg1 := tgName 4) (elt := d2 dAdd (bVar 3) (bVar 4)) (vs := [3, 4]) (vs1 := [4]) (P := P) (fun d d1 => (dAdd d d1).getD .none) (bs.map sD) (itD_list (dVar_v rfl)) hl fun d hd => by
      obtain ⟨w, hw, rfl⟩ := List.mem_map.mp hd
      refine ⟨_, rfl, ?_, fun d1 hd1 => ?_⟩
      · have z := itD_str (f := dVar 2) (env := [x0, .v (.list ((allS bs k).map wD)), .v (wD bs), .v (wD w), .un]) (P := P) (s := wordS bs) (dVar_v rfl)
        rw [signs_wordS] at z
        exact z
      · obtain ⟨s, _, rfl⟩ := List.mem_map.mp hd1
        refine ⟨_, rfl, ?_⟩
        have a := add_sg w s (by rw [allS_mem bs k w hw]; omega)
        rw [a]
        exact d2_ok (bVar_v rfl) (bVar_v rfl) a
    rw [grown _ _ fun w hw => by rw [allS_mem bs k w hw]; omega] at c
    rw [bnd_ok (sShare_ok (i := 1) rfl (sOwn_ok c))]
    rw [show k + (m + 1) = k + 1 + m by omega]
    exact q
theorem spelled_ok (bs : List Sg) (hb : bs.length ≤ 3) (n : Nat) (hn : n ≤ 8) (P : Pen) : den_spelled [.v (.list (List.replicate n (wD bs)))] P = .ok (.list ((allS bs n).map wD)) P := by
  obtain ⟨y2, y3, y4, q⟩ := spelled_loop bs hb (.v (.list (List.replicate n (wD bs)))) P n 0 .un .un .un (by omega)
  rw [Nat.zero_add] at q
  exact denOf_rt (sSeq_nx (sOwn_ok (dLst_ok (aCons_ok dC_ok aNil_ok) (Nat.le_of_ble_eq_true rfl))) (sSeq_nx (sFor_ok (itD_list (dVar_v rfl)) q) (sRetO_ok rfl)))
theorem rep_one (d : D) : ∀ n, (List.replicate n [d]).flatten = List.replicate n d
  | 0 => rfl
  | n + 1 => by rw [List.replicate_succ, List.flatten_cons, rep_one d n, List.replicate_succ]; rfl
theorem dRep_one (d : D) (n : Nat) (h : n ≤ 1000) : dRep (.list [d]) (.int (n : Int)) = some (.list (List.replicate n d)) := by
  show guardD _ (.list (List.replicate (n : Int).toNat [d]).flatten) = _
  rw [guardD_of (decide_eq_true ⟨by omega, by omega, by rw [Int.toNat_natCast]; show 1 * n ≤ _; omega⟩), Int.toNat_natCast, rep_one]
theorem all_words_ok (n : Nat) (hn : n ≤ 8) (P : Pen) : den_all_words [.v (.int (n : Int))] P = .ok (.list ((allS [some false, some true, none] n).map wD)) P :=
  denOf_rt (sRet_ok (dCall_ok (aCons_ok (d2_ok (dLst_ok (aCons_ok dC_ok aNil_ok) (Nat.le_of_ble_eq_true rfl)) (bVar_v rfl) (dRep_one _ n (by omega))) aNil_ok) rfl (spelled_ok [some false, some true, none] (by decide) n hn P)))
theorem settled_words_ok (n : Nat) (hn : n ≤ 8) (P : Pen) : den_settled_words [.v (.int (n : Int))] P = .ok (.list ((allS [some false, some true] n).map wD)) P :=
  denOf_rt (sRet_ok (dCall_ok (aCons_ok (d2_ok (dLst_ok (aCons_ok dC_ok aNil_ok) (Nat.le_of_ble_eq_true rfl)) (bVar_v rfl) (dRep_one _ n (by omega))) aNil_ok) rfl (spelled_ok [some false, some true] (by decide) n hn P)))
end Tk
end
section
set_option autoImplicit false
set_option maxRecDepth 100000
set_option maxHeartbeats 1000000
/-! N17: masks: numbers whose bit k says something of the word k. -/
namespace Tk
open PySem Vl L2 TL
def mk (p : Nat → Bool) : Nat → Nat
  | 0 => 0
  | m + 1 => mk p m + (if p m then 2 ^ m else 0)
theorem mk_lt (p : Nat → Bool) : ∀ m, mk p m < 2 ^ m
  | 0 => Nat.zero_lt_one
  | m + 1 => by
    have h := mk_lt p m
    rw [mk, Nat.pow_succ]
    split <;> omega
theorem mk_bit (p : Nat → Bool) : ∀ m k, (mk p m).testBit k = (decide (k < m) && p k)
  | 0, k => by rw [mk, Nat.zero_testBit]; simp
  | m + 1, k => by
    have ih := mk_bit p m k
    have hl := mk_lt p m
    rw [mk]
    by_cases hp : p m = true
    · rw [if_pos hp, Nat.add_comm]
      have e : 2 ^ m + mk p m = 2 ^ m ||| mk p m := by
        have := Nat.two_pow_add_eq_or_of_lt hl 1
        rwa [Nat.mul_one] at this
      rw [e, Nat.testBit_or, Nat.testBit_two_pow, ih]
      by_cases hk : m = k
      · subst hk; simp [hp]
      · by_cases h2 : k < m
        · simp [hk, h2, Nat.lt_succ_of_lt h2]
        · have : ¬ k < m + 1 := by omega
          simp [hk, h2, this]
    · rw [if_neg hp, Nat.add_zero, ih]
      by_cases hk : k = m
      · subst hk
        have : p k = false := by simpa using hp
        simp [this]
      · by_cases h2 : k < m
        · simp [h2, Nat.lt_succ_of_lt h2]
        · have : ¬ k < m + 1 := by omega
          simp [h2, this]
theorem mk_and (p q : Nat → Bool) (m : Nat) : mk p m &&& mk q m = mk (fun k => p k && q k) m := by
  refine Nat.eq_of_testBit_eq fun k => ?_
  rw [Nat.testBit_and, mk_bit, mk_bit, mk_bit]
  cases decide (k < m) <;> simp
theorem mk_or (p q : Nat → Bool) (m : Nat) : mk p m ||| mk q m = mk (fun k => p k || q k) m := by
  refine Nat.eq_of_testBit_eq fun k => ?_
  rw [Nat.testBit_or, mk_bit, mk_bit, mk_bit]
  cases decide (k < m) <;> simp
theorem mk_all : ∀ m, mk (fun _ => true) m = 2 ^ m - 1
  | 0 => rfl
  | m + 1 => by
    have : 0 < 2 ^ m := Nat.two_pow_pos m
    rw [mk, mk_all m, if_pos rfl, Nat.pow_succ]; omega
theorem mk_none : ∀ m, mk (fun _ => false) m = 0
  | 0 => rfl
  | m + 1 => by rw [mk, mk_none m, if_neg (by decide)]
theorem mk_congr {p q : Nat → Bool} : ∀ {m : Nat}, (∀ k, k < m → p k = q k) → mk p m = mk q m
  | 0, _ => rfl
  | m + 1, h => by rw [mk, mk, mk_congr fun k hk => h k (by omega), h m (by omega)]
/-- the pair of the masks of a column of signs -/
def prM (m : Nat) (f : Nat → Sg) : D := .tuple [.int ((mk (fun k => f k == some true) m : Nat) : Int), .int ((mk (fun k => f k == some false) m : Nat) : Int)]
theorem band_ok (a b : Nat) : dBand (.int (a : Int)) (.int (b : Int)) = some (.int ((a &&& b : Nat) : Int)) := by
  show some (PyData.int (Builtin.bitAnd a b)) = _
  rw [PySem.W.os_band]
theorem bor_ok (a b : Nat) : dBor (.int (a : Int)) (.int (b : Int)) = some (.int ((a ||| b : Nat) : Int)) := by
  show some (PyData.int (Builtin.bitOr a b)) = _
  rw [Bits.bitOr_pp (Int.natCast_nonneg a) (Int.natCast_nonneg b), Int.toNat_natCast, Int.toNat_natCast]
theorem shr_ok (a k : Nat) : dShr (.int (a : Int)) (.int (k : Int)) = some (.int ((a >>> k : Nat) : Int)) := by
  show guardD _ (.int ((a : Int) / 2 ^ (k : Int).toNat)) = _
  rw [guardD_of (decide_eq_true (by omega)), Int.toNat_natCast, Nat.shiftRight_eq_div_pow]
  rw [show ((2 : Int) ^ k) = ((2 ^ k : Nat) : Int) by simp]
  rfl
theorem bit_read (p : Nat → Bool) (m k : Nat) (h : k < m) : Builtin.bitAnd (((mk p m) >>> k : Nat) : Int) 1 = if p k then 1 else 0 := by
  rw [PyProof.Rows.bitAnd_m1]
  have e : (mk p m >>> k) % 2 = if p k then 1 else 0 := by
    have t := mk_bit p m k
    rw [Nat.testBit_eq_decide_div_mod_eq, decide_eq_true h, Bool.true_and] at t
    rw [Nat.shiftRight_eq_div_pow]
    cases hp : p k with
    | true => rw [hp] at t; rw [if_pos rfl]; exact of_decide_eq_true t
    | false =>
      rw [hp] at t
      have := of_decide_eq_false t
      rw [if_neg (by decide)]
      omega
  rw [show ((2 : Int)) = ((2 : Nat) : Int) from rfl, ← Int.natCast_emod, e]
  cases p k <;> rfl
end Tk
end
section
set_option autoImplicit false
set_option maxRecDepth 100000
set_option maxHeartbeats 1000000
/-! N18: gates, marks and signs over many words. -/
namespace Tk
open PySem Vl L2 TL
theorem ixL {α : Type} (f : α → D) (l : List α) (a : Nat) (x : α) (h : l[a]? = some x) : dIxA (.list (l.map f)) (.int (a : Int)) = some (f x) := by
  refine L2.atI_nat (j := a) ?_
  rw [List.getElem?_map, h]; rfl
theorem prM_neg (m : Nat) (f : Nat → Sg) : PyData.tuple [.int ((mk (fun k => f k == some false) m : Nat) : Int), .int ((mk (fun k => f k == some true) m : Nat) : Int)] = prM m (fun k => nS (f k)) := by
  unfold prM
  have e1 : (fun k => nS (f k) == some true) = fun k => f k == some false := funext fun k => by
    generalize f k = s; rcases s with _ | _ | _ <;> rfl
  have e2 : (fun k => nS (f k) == some false) = fun k => f k == some true := funext fun k => by
    generalize f k = s; rcases s with _ | _ | _ <;> rfl
  rw [e1, e2]
theorem prM_and (m : Nat) (f g : Nat → Sg) : PyData.tuple [.int ((mk (fun k => f k == some true) m &&& mk (fun k => g k == some true) m : Nat) : Int), .int ((mk (fun k => f k == some false) m ||| mk (fun k => g k == some false) m : Nat) : Int)] = prM m (fun k => andS (f k) (g k)) := by
  unfold prM
  rw [mk_and, mk_or]
  have e1 : (fun k => andS (f k) (g k) == some true) = fun k => (f k == some true) && (g k == some true) := funext fun k => by
    generalize f k = s; generalize g k = t; rcases s with _ | _ | _ <;> rcases t with _ | _ | _ <;> rfl
  have e2 : (fun k => andS (f k) (g k) == some false) = fun k => (f k == some false) || (g k == some false) := funext fun k => by
    generalize f k = s; generalize g k = t; rcases s with _ | _ | _ <;> rcases t with _ | _ | _ <;> rfl
  rw [e1, e2]
theorem prM_or (m : Nat) (f g : Nat → Sg) : PyData.tuple [.int ((mk (fun k => f k == some true) m ||| mk (fun k => g k == some true) m : Nat) : Int), .int ((mk (fun k => f k == some false) m &&& mk (fun k => g k == some false) m : Nat) : Int)] = prM m (fun k => orS (f k) (g k)) := by
  unfold prM
  rw [mk_and, mk_or]
  have e1 : (fun k => orS (f k) (g k) == some true) = fun k => (f k == some true) || (g k == some true) := funext fun k => by
    generalize f k = s; generalize g k = t; rcases s with _ | _ | _ <;> rcases t with _ | _ | _ <;> rfl
  have e2 : (fun k => orS (f k) (g k) == some false) = fun k => (f k == some false) && (g k == some false) := funext fun k => by
    generalize f k = s; generalize g k = t; rcases s with _ | _ | _ <;> rcases t with _ | _ | _ <;> rfl
  rw [e1, e2]
theorem prM_con (m : Nat) (b : Bool) : prM m (fun _ => some b) = if b then .tuple [.int ((mk (fun _ => true) m : Nat) : Int), .int 0] else .tuple [.int 0, .int ((mk (fun _ => true) m : Nat) : Int)] := by
  have h0 := mk_none m
  cases b with
  | true => show PyData.tuple [.int ((mk (fun _ => true) m : Nat) : Int), .int ((mk (fun _ => false) m : Nat) : Int)] = _; rw [h0]; rfl
  | false => show PyData.tuple [.int ((mk (fun _ => false) m : Nat) : Int), .int ((mk (fun _ => true) m : Nat) : Int)] = _; rw [h0]; rfl
theorem col_at (fs : List (Nat → Sg)) (a : Nat) (f : Nat → Sg) (h : fs[a]? = some f) : (fun k => (fs.map (· k)).getD a none) = f := funext fun k => by
  rw [List.getD_eq_getElem?_getD, List.getElem?_map, h]; rfl
theorem let_okM (m : Nat) (g : Gate) (fs : List (Nat → Sg)) (hg : g.fits fs.length) (P : Pen) : den_let_through [.v g.d, .v (.list (fs.map (prM m))), .v (.int ((mk (fun _ => true) m : Nat) : Int))] P = .ok (prM m (fun k => g.tell (fs.map (· k)))) P := by
  refine denOf_rt ?_
  generalize hall : (PyData.int ((mk (fun _ => true) m : Nat) : Int)) = all
  cases g with
  | con b =>
    rw [show (fun k => (Gate.con b).tell (fs.map (· k))) = fun _ => some b from rfl, prM_con, hall]
    cases b with
    | true => exact sSeq_nx (by wtm_at "vl evc") (sSeq_nx (sIf_f (by wtm_at "vl evc") sNil_ok) (sSeq_rt (sIf_t (by wtm_at "vl evc") (sRet_ok (dTup_ok (aCons_ok (dVar_v rfl) (aCons_ok dC_ok aNil_ok)) (Nat.le_of_ble_eq_true rfl))))))
    | false => exact sSeq_nx (by wtm_at "vl evc") (sSeq_rt (sIf_t (by wtm_at "vl evc") (sRet_ok (dTup_ok (aCons_ok dC_ok (aCons_ok (dVar_v rfl) aNil_ok)) (Nat.le_of_ble_eq_true rfl)))))
  | neg a =>
    obtain ⟨f, hf⟩ : ∃ f, fs[a]? = some f := ⟨_, List.getElem?_eq_getElem hg⟩
    have h1 := ixL (prM m) fs a f hf
    rw [show (fun k => (Gate.neg a).tell (fs.map (· k))) = fun k => nS ((fun k => (fs.map (· k)).getD a none) k) from rfl, col_at fs a f hf, ← prM_neg]
    refine sSeq_nx (by wtm_at "vl evc") (sSeq_nx (sIf_f (by wtm_at "vl evc") sNil_ok) (sSeq_nx (sIf_f (by wtm_at "vl evc") sNil_ok) ?_))
    have hix : d2 dIxA (bVar 1) (d2 dIxA (bVar 0) (dC (.int 1))) [.v (Gate.neg a).d, .v (.list (fs.map (prM m))), .v all, .v (.str "not"), .un, .un, .un, .un] P = .ok (prM m f) P := d2_ok (bVar_v rfl) (d2_ok (bVar_v rfl) dC_ok rfl) h1
    exact sSeq_nx (sAsg_ok hix rfl) (sSeq_rt (sIf_t (by wtm_at "vl evc") (sRet_ok (dTup_ok (aCons_ok (dVar_v rfl) (aCons_ok (dVar_v rfl) aNil_ok)) (Nat.le_of_ble_eq_true rfl)))))
  | bin k a b =>
    obtain ⟨ha, hb⟩ := hg
    obtain ⟨f, hf⟩ : ∃ f, fs[a]? = some f := ⟨_, List.getElem?_eq_getElem ha⟩
    obtain ⟨g, hg⟩ : ∃ g, fs[b]? = some g := ⟨_, List.getElem?_eq_getElem hb⟩
    have h1 := ixL (prM m) fs a f hf
    have h2 := ixL (prM m) fs b g hg
    cases k with
    | true =>
      rw [show (fun k => (Gate.bin true a b).tell (fs.map (· k))) = fun k => andS ((fun k => (fs.map (· k)).getD a none) k) ((fun k => (fs.map (· k)).getD b none) k) from rfl, col_at fs a f hf, col_at fs b g hg, ← prM_and]
      refine sSeq_nx (by wtm_at "vl evc") (sSeq_nx (sIf_f (by wtm_at "vl evc") sNil_ok) (sSeq_nx (sIf_f (by wtm_at "vl evc") sNil_ok) ?_))
      have hix : d2 dIxA (bVar 1) (d2 dIxA (bVar 0) (dC (.int 1))) [.v (Gate.bin true a b).d, .v (.list (fs.map (prM m))), .v all, .v (.str "and"), .un, .un, .un, .un] P = .ok (prM m f) P := d2_ok (bVar_v rfl) (d2_ok (bVar_v rfl) dC_ok rfl) h1
      have hiy : ∀ x y : SV, d2 dIxA (bVar 1) (d2 dIxA (bVar 0) (dC (.int 2))) [.v (Gate.bin true a b).d, .v (.list (fs.map (prM m))), .v all, .v (.str "and"), x, y, .un, .un] P = .ok (prM m g) P := fun x y => d2_ok (bVar_v rfl) (d2_ok (bVar_v rfl) dC_ok rfl) h2
      refine sSeq_nx (sAsg_ok hix rfl) (sSeq_nx (sIf_f (by wtm_at "vl evc") sNil_ok) (sSeq_nx (sAsg_ok (hiy _ _) rfl) (sSeq_rt (sIf_t (by wtm_at "vl evc") (sRet_ok ?_)))))
      exact dTup_ok (aCons_ok (d2_ok (bVar_v rfl) (bVar_v rfl) (band_ok _ _)) (aCons_ok (d2_ok (bVar_v rfl) (bVar_v rfl) (bor_ok _ _)) aNil_ok)) (Nat.le_of_ble_eq_true rfl)
    | false =>
      rw [show (fun k => (Gate.bin false a b).tell (fs.map (· k))) = fun k => orS ((fun k => (fs.map (· k)).getD a none) k) ((fun k => (fs.map (· k)).getD b none) k) from rfl, col_at fs a f hf, col_at fs b g hg, ← prM_or]
      refine sSeq_nx (by wtm_at "vl evc") (sSeq_nx (sIf_f (by wtm_at "vl evc") sNil_ok) (sSeq_nx (sIf_f (by wtm_at "vl evc") sNil_ok) ?_))
      have hix : d2 dIxA (bVar 1) (d2 dIxA (bVar 0) (dC (.int 1))) [.v (Gate.bin false a b).d, .v (.list (fs.map (prM m))), .v all, .v (.str "or"), .un, .un, .un, .un] P = .ok (prM m f) P := d2_ok (bVar_v rfl) (d2_ok (bVar_v rfl) dC_ok rfl) h1
      have hiy : ∀ x y : SV, d2 dIxA (bVar 1) (d2 dIxA (bVar 0) (dC (.int 2))) [.v (Gate.bin false a b).d, .v (.list (fs.map (prM m))), .v all, .v (.str "or"), x, y, .un, .un] P = .ok (prM m g) P := fun x y => d2_ok (bVar_v rfl) (d2_ok (bVar_v rfl) dC_ok rfl) h2
      refine sSeq_nx (sAsg_ok hix rfl) (sSeq_nx (sIf_f (by wtm_at "vl evc") sNil_ok) (sSeq_nx (sAsg_ok (hiy _ _) rfl) (sSeq_nx (sIf_f (by wtm_at "vl evc") sNil_ok) (sRet_ok ?_))))
      exact dTup_ok (aCons_ok (d2_ok (bVar_v rfl) (bVar_v rfl) (bor_ok _ _)) (aCons_ok (d2_ok (bVar_v rfl) (bVar_v rfl) (band_ok _ _)) aNil_ok)) (Nat.le_of_ble_eq_true rfl)
theorem read_bit (i : Nat) (p : Nat → Bool) (m k : Nat) (h : k < m) (env : Vl.Env) (P : Pen) (h1 : env[i]? = some (.v (.int ((mk p m : Nat) : Int)))) (h2 : env[1]? = some (.v (.int (k : Int)))) :
    tTru (d2 dBand (d2 dShr (bVar i) (bVar 1)) (dC (.int 1))) env P = .ok (p k) P := by
  have b := bit_read p m k h
  refine tTru_ok (d2_ok (d2_ok (bVar_v h1) (bVar_v h2) (shr_ok _ _)) dC_ok (show dBand _ _ = some (.int (if p k then 1 else 0)) from by rw [← b]; rfl)) ?_
  cases p k <;> rfl
theorem sign_okM (m : Nat) (f : Nat → Sg) (k : Nat) (h : k < m) (P : Pen) : den_sign_at [.v (prM m f), .v (.int (k : Int))] P = .ok (sD (f k)) P := by
  refine denOf_rt (sSeq_nx (sAsg_ok (dVar_v rfl) rfl) ?_)
  have a := read_bit 2 (fun k => f k == some true) m k h [.v (prM m f), .v (.int (k : Int)), .v (.int ((mk (fun k => f k == some true) m : Nat) : Int)), .v (.int ((mk (fun k => f k == some false) m : Nat) : Int))] P rfl rfl
  have b := read_bit 3 (fun k => f k == some false) m k h [.v (prM m f), .v (.int (k : Int)), .v (.int ((mk (fun k => f k == some true) m : Nat) : Int)), .v (.int ((mk (fun k => f k == some false) m : Nat) : Int))] P rfl rfl
  generalize f k = s at a b
  rcases s with _ | _ | _
  · exact sSeq_nx (sIf_f a sNil_ok) (sRet_ok (vIf_f b (by wtm_at "vl evc")))
  · exact sSeq_nx (sIf_f a sNil_ok) (sRet_ok (vIf_t b (by wtm_at "vl evc")))
  · exact sSeq_rt (sIf_t a (by wtm_at "vl evc"))
end Tk
end
section
set_option autoImplicit false
set_option maxRecDepth 100000
set_option maxHeartbeats 1000000
/-! N19: marks, answers over many words. -/
namespace Tk
open PySem Vl L2 TL
theorem enumD_mem : ∀ (ds : List D) (c : Int) (d : D), d ∈ enumD c ds → ∃ (i : Nat) (x : D), ds[i]? = some x ∧ d = .tuple [.int (c + (i : Nat)), x]
  | [], _, _, h => nomatch h
  | y :: ds, c, d, h => by
    rcases List.mem_cons.mp (show d ∈ PyData.tuple [.int c, y] :: enumD (c + 1) ds from h) with rfl | h
    · exact ⟨0, y, rfl, by simp⟩
    · obtain ⟨i, x, h1, h2⟩ := enumD_mem ds (c + 1) d h
      refine ⟨i + 1, x, h1, ?_⟩
      rw [h2, show c + 1 + (i : Nat) = c + ((i + 1 : Nat) : Int) by omega]
/-- what a marked place gives -/
def gp (p : Nat → Bool) (d : D) : Option D := match d with
  | .tuple [.int k, _] => if p k.toNat then some (.int ((2 ^ k.toNat : Nat) : Int)) else none
  | _ => none
theorem marks_sum (p : Nat → Bool) : ∀ (ds : List D) (c : Nat), ∃ ns, intsOf ((enumD (c : Int) ds).filterMap (gp p)) = some ns ∧ ns.sum + ((mk p c : Nat) : Int) = ((mk p (c + ds.length) : Nat) : Int)
  | [], c => ⟨[], rfl, by simp⟩
  | d :: ds, c => by
    obtain ⟨ns, h1, h2⟩ := marks_sum p ds (c + 1)
    have e : mk p (c + 1) = mk p c + (if p c then 2 ^ c else 0) := rfl
    rw [show (enumD (c : Int) (d :: ds)) = .tuple [.int (c : Int), d] :: enumD (((c + 1 : Nat)) : Int) ds from rfl, List.filterMap_cons]
    have eg : gp p (.tuple [.int (c : Int), d]) = if p c then some (.int ((2 ^ c : Nat) : Int)) else none := by
      show (if p (c : Int).toNat then some (PyData.int ((2 ^ (c : Int).toNat : Nat) : Int)) else none) = _
      rw [Int.toNat_natCast]
    rw [eg]
    rw [List.length_cons, show c + (ds.length + 1) = c + 1 + ds.length by omega]
    cases hp : p c with
    | true =>
      rw [hp, if_pos rfl] at e
      refine ⟨((2 ^ c : Nat) : Int) :: ns, ?_, ?_⟩
      · show (intsOf _).map _ = _
        rw [h1]; rfl
      · rw [List.sum_cons]
        omega
    | false =>
      rw [hp, if_neg (by decide)] at e
      exact ⟨ns, h1, by omega⟩
/-- the column of the words' signs at one place -/
def col (ws : List (List Sg)) (j : Nat) : Nat → Sg := fun k => (ws.getD k []).getD j none
theorem word_at (w : List Sg) (j : Nat) (hj : j < w.length) (hw : w.length ≤ 1000) : dIxA (wD w) (.int (j : Int)) = some (sD (w.getD j none)) := by
  show (if (wordS w).length ≤ 16777216 then _ else none) = _
  rw [wordS_len, if_pos (by omega)]
  have e : L2.atI (wordS w).cps.toList (j : Int) = some (ch (w.getD j none)) := by
    refine L2.atI_nat (j := j) ?_
    show (w.map ch).toArray.toList[j]? = _
    rw [List.toList_toArray, List.getElem?_map, List.getElem?_eq_getElem hj, List.getD_eq_getElem?_getD, List.getElem?_eq_getElem hj]
    rfl
  rw [e]; rfl
theorem sign_eq (s : Sg) (b : Bool) : dEqA (sD s) (sD (some b)) = some (.bool (s == some b)) := by
  show some (PyData.bool (decide ((⟨#[ch s]⟩ : Str) = ⟨#[ch (some b)]⟩))) = _
  rcases s with _ | _ | _ <;> cases b <;> rfl
theorem marked_okM (ws : List (List Sg)) (n : Nat) (hn : n ≤ 32) (hw : ∀ w ∈ ws, w.length = n) (hl : ws.length ≤ 1000) (j : Nat) (hj : j < n) (b : Bool) (P : Pen) :
    den_marked [.v (.list (ws.map wD)), .v (.int (j : Int)), .v (sD (some b))] P = .ok (.int ((mk (fun k => col ws j k == some b) ws.length : Nat) : Int)) P := by
  refine denOf_rt (sRet_ok ?_)
  obtain ⟨ns, h1, h2⟩ := marks_sum (fun k => col ws j k == some b) (ws.map wD) 0
  refine dB_ok (aCons_ok (dComp_filter (ds := enumD 0 (ws.map wD)) (gp fun k => col ws j k == some b) (itE1_ok (dVar_v rfl) rfl) (by rw [enumD_len, List.length_map]; omega) fun d hd => ?_) aNil_ok) ?_
  · obtain ⟨i, x, hx, rfl⟩ := enumD_mem _ _ _ hd
    rw [List.getElem?_map] at hx
    cases hi : ws[i]? with
    | none => rw [hi] at hx; cases hx
    | some w =>
      rw [hi] at hx
      cases hx
      have hw1 := hw w (List.mem_of_getElem? hi)
      have hil : i < ws.length := (List.getElem?_eq_some_iff.mp hi).1
      have ec : col ws j i = w.getD j none := by
        have eget : ws.getD i [] = w := by rw [List.getD_eq_getElem?_getD, hi]; rfl
        unfold col
        rw [eget]
      have ek : ((0 : Int) + (i : Nat)) = (i : Int) := by omega
      rw [ek]
      have ht : tV (d2 dEqA (d2 dIxA (bVar 4) (bVar 1)) (bVar 2)) [.v (.list (ws.map wD)), .v (.int (j : Int)), .v (sD (some b)), .v (.int (i : Int)), .v (wD w)] P = .ok (w.getD j none == some b) P :=
        tV_ok (d2_ok (d2_ok (bVar_v rfl) (bVar_v rfl) (word_at w j (by omega) (by omega))) (bVar_v rfl) (sign_eq _ b))
      have eg : gp (fun k => col ws j k == some b) (.tuple [.int (i : Int), wD w]) = if w.getD j none == some b then some (.int ((2 ^ i : Nat) : Int)) else none := by
        show (if (col ws j (i : Int).toNat == some b) then some (PyData.int ((2 ^ (i : Int).toNat : Nat) : Int)) else none) = _
        rw [Int.toNat_natCast, ec]
      refine ⟨_, rfl, ?_⟩
      rw [eg]
      cases hq : (w.getD j none == some b) with
      | true =>
        rw [hq] at ht
        refine .inr ⟨_, rfl, ht, d2_ok dC_ok (bVar_v rfl) ?_⟩
        show guardD _ (.int (1 * 2 ^ (i : Int).toNat)) = _
        rw [guardD_of (decide_eq_true ⟨by omega, by omega, by decide⟩), Int.toNat_natCast]
        simp
      | false =>
        rw [hq] at ht
        exact .inl ⟨rfl, ht⟩
  · have h1' : intsOf (List.filterMap (gp fun k => col ws j k == some b) (enumD 0 (ws.map wD))) = some ns := h1
    have e0 : mk (fun k => col ws j k == some b) 0 = 0 := rfl
    rw [e0, List.length_map, Nat.zero_add] at h2
    show (intsOf (List.filterMap (gp fun k => col ws j k == some b) (enumD 0 (ws.map wD)))).map (fun ns => PyData.int ns.sum) = _
    rw [h1', ← h2]
    show some (PyData.int ns.sum) = some (PyData.int (ns.sum + ((0 : Nat) : Int)))
    rw [show ((0 : Nat) : Int) = 0 from rfl, Int.add_zero]
def tellCols : List Gate → List (Nat → Sg) → List (Nat → Sg)
  | [], fs => fs
  | g :: gs, fs => tellCols gs (fs ++ [fun k => g.tell (fs.map (· k))])
theorem tellCols_len : ∀ (gs : List Gate) (fs : List (Nat → Sg)), (tellCols gs fs).length = fs.length + gs.length
  | [], fs => by simp [tellCols]
  | g :: gs, fs => by rw [tellCols, tellCols_len gs]; simp; omega
theorem tellCols_at (k : Nat) : ∀ (gs : List Gate) (fs : List (Nat → Sg)), (tellCols gs fs).map (· k) = tellAll gs (fs.map (· k))
  | [], fs => rfl
  | g :: gs, fs => by rw [tellCols, tellCols_at k gs, tellAll, List.map_append]; rfl
theorem noL_prM (m : Nat) (f : Nat → Sg) : noL (prM m f) = true := rfl
theorem gates_runM (m : Nat) (e0 e1 e2 e3 e4 e6 e9 e10 e11 e12 : SV) (P : Pen) : ∀ (gs : List Gate) (fs : List (Nat → Sg)) (x : SV), fitsAll gs fs.length → fs.length + gs.length < 16777216 →
    ∃ y, loopD (tgName 8) (sApp 5 (dCallT 3 den_let_through (aCons (bVar 8) (aCons (bVar 5) (aCons (bVar 7) aNil))))) (gs.map Gate.d) [e0, e1, e2, e3, e4, .own (fs.map (prM m)), e6, .v (.int ((mk (fun _ => true) m : Nat) : Int)), x, e9, e10, e11, e12] P = .ok (.nx [e0, e1, e2, e3, e4, .own ((tellCols gs fs).map (prM m)), e6, .v (.int ((mk (fun _ => true) m : Nat) : Int)), y, e9, e10, e11, e12]) P
  | [], f, x, _, _ => ⟨x, rfl⟩
  | g :: gs, f, x, ⟨h1, h2⟩, hl => by
    rw [List.length_cons] at hl
    obtain ⟨x', q⟩ := gates_runM m e0 e1 e2 e3 e4 e6 e9 e10 e11 e12 P gs (f ++ [fun k => g.tell (f.map (· k))]) (.v g.d) (by rw [List.length_append]; exact h2) (by rw [List.length_append, List.length_singleton]; omega)
    refine ⟨x', ?_⟩
    unfold loopD
    show bnd (sApp 5 _ [e0, e1, e2, e3, e4, .own (f.map (prM m)), e6, .v (.int ((mk (fun _ => true) m : Nat) : Int)), .v g.d, e9, e10, e11, e12]) _ P = _
    have hs := sApp_ok (i := 5) (env := [e0, e1, e2, e3, e4, .own (f.map (prM m)), e6, .v (.int ((mk (fun _ => true) m : Nat) : Int)), .v g.d, e9, e10, e11, e12]) (P := P) rfl (dCallT_ok (n := 3) (aCons_ok (bVar_v (i := 8) rfl) (aCons_ok (bVar_o (i := 5) rfl) (aCons_ok (bVar_v (i := 7) rfl) aNil_ok))) rfl (let_okM m g f h1 P) (noL_prM _ _)) (by rw [List.length_map]; omega)
    rw [bnd_ok hs]
    have ea : f.map (prM m) ++ [prM m (fun k => g.tell (f.map (· k)))] = (f ++ [fun k => g.tell (f.map (· k))]).map (prM m) := by rw [List.map_append]; rfl
    rw [ea]
    exact q
theorem cols_at (ws : List (List Sg)) (n k : Nat) (h : (ws.getD k []).length = n) : ((List.range n).map (col ws)).map (· k) = ws.getD k [] := by
  refine List.ext_getElem? fun i => ?_
  rw [List.map_map, List.getElem?_map]
  by_cases hi : i < n
  · rw [List.getElem?_range hi]
    show some ((ws.getD k []).getD i none) = _
    rw [List.getD_eq_getElem?_getD, List.getElem?_eq_getElem (by omega)]; rfl
  · rw [List.getElem?_eq_none (by rw [List.length_range]; omega), List.getElem?_eq_none (by omega)]; rfl
end Tk
end
section
set_option autoImplicit false
set_option maxRecDepth 100000
set_option maxHeartbeats 1000000
/-! N20: what a net answers at many words. -/
namespace Tk
open PySem Vl L2 TL
theorem gLen_list (ds : List D) : gLen [.list ds] = some (.int (ds.length : Int)) := rfl
theorem answers_okM (t : Net) (h : t.Ok) (ws : List (List Sg)) (hw : ∀ w ∈ ws, w.length = t.n) (hl : ws.length ≤ 1000) (P : Pen) :
    den_answers_at [.v t.d, .v (.list (ws.map wD))] P = .ok (.list (ws.map fun w => wD (runS t w))) P := by
  have n2 := h.n2
  have few := h.few
  have len : gLen [.list (ws.map wD)] = some (.int (ws.length : Int)) := by
    rw [gLen_list, List.length_map]
  refine denOf_rt ?_
  apply sSeq_nx
  · exact sAsg_ok (dVar_v rfl) rfl
  apply sSeq_nx
  · refine sOwn_ok (dComp_map (ds := rangeD 0 t.n) (fun d => prM ws.length (col ws (intOf d).toNat)) (itR1_ok (k := (t.n : Int)) (by wtm_at "vl evc") (by omega) |>.trans ?_) (by simp [rangeD]; omega) fun d hd => ?_)
    · rw [Int.toNat_natCast]
    · obtain ⟨j, hj, rfl⟩ := List.mem_map.mp hd
      have hj := List.mem_range.mp hj
      refine ⟨_, rfl, ?_⟩
      have ej : ((0 : Int) + (j : Nat)) = (j : Int) := by omega
      rw [ej]
      refine conv_ok (dTup_ok (aCons_ok (dCall_ok (aCons_ok (dVar_v rfl) (aCons_ok (dVar_v rfl) (aCons_ok dC_ok aNil_ok))) rfl (marked_okM ws t.n n2 hw hl j hj true P)) (aCons_ok (dCall_ok (aCons_ok (dVar_v rfl) (aCons_ok (dVar_v rfl) (aCons_ok dC_ok aNil_ok))) rfl (marked_okM ws t.n n2 hw hl j hj false P)) aNil_ok)) (Nat.le_of_ble_eq_true rfl)) ?_
      rw [show (intOf (.int (j : Int))).toNat = j from Int.toNat_natCast j]
      rfl
  have ec : (rangeD 0 t.n).map (fun d => prM ws.length (col ws (intOf d).toNat)) = ((List.range t.n).map (col ws)).map (prM ws.length) := by
    unfold rangeD
    rw [List.map_map]; rw [List.map_map]
    refine (List.map_congr_left fun i _ => ?_)
    show prM ws.length (col ws ((0 : Int) + (i : Nat)).toNat) = _
    rw [show ((0 : Int) + (i : Nat)).toNat = i by omega]
    rfl
  rw [ec]
  apply sSeq_nx
  · refine sSet_ok (d := .int ((mk (fun _ => true) ws.length : Nat) : Int)) (d2_ok (d2_ok dC_ok (dB_ok (aCons_ok (bVar_v rfl) aNil_ok) len) (show dShl (.int 1) (.int (ws.length : Int)) = some (.int (((2 ^ ws.length : Nat)) : Int)) from ?_)) dC_ok ?_)
    · show guardD _ (.int (1 * 2 ^ (ws.length : Int).toNat)) = _
      rw [guardD_of (decide_eq_true ⟨by omega, by omega, by decide⟩), Int.toNat_natCast]
      simp
    · show some (PyData.int (((2 ^ ws.length : Nat) : Int) - 1)) = _
      have : 0 < 2 ^ ws.length := Nat.two_pow_pos _
      rw [mk_all, show (((2 ^ ws.length - 1 : Nat)) : Int) = ((2 ^ ws.length : Nat) : Int) - 1 by omega]
  have hcl : ((List.range t.n).map (col ws)).length = t.n := by rw [List.length_map, List.length_range]
  obtain ⟨x, q⟩ := gates_runM ws.length (.v t.d) (.v (.list (ws.map wD))) (.v (.int t.n)) (.v (.tuple (t.gates.map Gate.d))) (.v (.tuple (t.outs.map fun (o : Nat) => PyData.int (o : Int)))) .un .un .un .un .un P t.gates ((List.range t.n).map (col ws)) .un (by rw [hcl]; exact h.fits) (by omega)
  apply sSeq_nx
  · exact sFor_ok (itD_tup (dVar_v rfl)) q
  have hlen := tellCols_len t.gates ((List.range t.n).map (col ws))
  generalize hC : tellCols t.gates ((List.range t.n).map (col ws)) = C at hlen
  apply sSeq_nx
  · refine sOwn_ok (dComp_map (ds := t.outs.map fun (o : Nat) => PyData.int (o : Int)) (fun d => prM ws.length (C.getD (intOf d).toNat fun _ => none)) (itD_tup (dVar_v rfl)) (by have := h.o2; simp; omega) fun d hd => ?_)
    obtain ⟨o, ho, rfl⟩ := List.mem_map.mp hd
    refine ⟨_, rfl, d2_ok (bVar_o rfl) (bVar_v rfl) ?_⟩
    rw [show (intOf (.int (o : Int))).toNat = o from Int.toNat_natCast o]
    have hlt : o < C.length := by rw [hlen, hcl]; exact h.outs o ho
    exact ixL (prM ws.length) C o _ (by rw [List.getElem?_eq_getElem hlt, List.getD_eq_getElem?_getD, List.getElem?_eq_getElem hlt]; rfl)
  have eo : (t.outs.map fun (o : Nat) => PyData.int (o : Int)).map (fun d => prM ws.length (C.getD (intOf d).toNat fun _ => none)) = (t.outs.map fun o => C.getD o fun _ => none).map (prM ws.length) := by
    rw [List.map_map]; rw [List.map_map]
    rfl
  rw [eo]
  generalize hF : (t.outs.map fun o => C.getD o fun _ => none) = F
  have hFl : F.length ≤ 32 := by rw [← hF, List.length_map]; exact h.o2
  -- the signs at word k
  have hk : ∀ k w, ws[k]? = some w → F.map (· k) = runS t w := by
    intro k w hkw
    have eg : ws.getD k [] = w := by rw [List.getD_eq_getElem?_getD, hkw]; rfl
    have e1 := tellCols_at k t.gates ((List.range t.n).map (col ws))
    rw [cols_at ws t.n k (by rw [eg]; exact hw w (List.mem_of_getElem? hkw)), eg, hC] at e1
    rw [← hF, List.map_map, runS]
    refine List.map_congr_left fun o ho => ?_
    show (C.getD o fun _ => none) k = _
    rw [← e1]
    have hlt : o < C.length := by rw [hlen, hcl]; exact h.outs o ho
    rw [List.getD_eq_getElem?_getD, List.getD_eq_getElem?_getD, List.getElem?_map, List.getElem?_eq_getElem hlt]
    rfl
  refine sShare_ok rfl (sRet_ok ?_)
  refine conv_ok (dComp_map (ds := rangeD 0 ws.length) (fun d => wD (runS t (ws.getD (intOf d).toNat []))) (itR1_ok (k := (ws.length : Int)) (aCons_ok (dB_ok (aCons_ok (bVar_v rfl) aNil_ok) len) aNil_ok) (by omega) |>.trans ?_) (by simp [rangeD]; omega) fun d hd => ?_) ?_
  · rw [Int.toNat_natCast]
  · obtain ⟨k, hkm, rfl⟩ := List.mem_map.mp hd
    have hkl := List.mem_range.mp hkm
    have ek : ((0 : Int) + (k : Nat)) = (k : Int) := by omega
    rw [ek]
    rw [show (intOf (.int (k : Int))).toNat = k from Int.toNat_natCast k]
    have hw1 : ws[k]? = some (ws.getD k []) := by rw [List.getD_eq_getElem?_getD, List.getElem?_eq_getElem hkl]; rfl
    refine ⟨_, rfl, ?_⟩
    have hr : (runS t (ws.getD k [])).length ≤ 16777216 := by have := h.o2; rw [runS, List.length_map]; omega
    refine dMA_ok (dC_ok) rfl (aCons_ok (dComp_map (ds := F.map (prM ws.length)) (fun d => (match (den_sign_at [.v d, .v (.int (k : Int))] P) with | .ok y _ => y | _ => .none)) (itD_list (dVar_v rfl)) (by rw [List.length_map]; omega) fun d hd => ?_) aNil_ok) ?_
    · obtain ⟨f, _, rfl⟩ := List.mem_map.mp hd
      refine ⟨_, rfl, conv_ok (dCall_ok (aCons_ok (dVar_v rfl) (aCons_ok (dVar_v rfl) aNil_ok)) rfl (sign_okM ws.length f k hkl P)) ?_⟩
      rw [sign_okM ws.length f k hkl P]
    · have em : (F.map (prM ws.length)).map (fun d => (match (den_sign_at [.v d, .v (.int (k : Int))] P) with | .ok y _ => y | _ => .none)) = (runS t (ws.getD k [])).map sD := by
        rw [← hk k _ hw1, List.map_map, List.map_map]
        refine List.map_congr_left fun f _ => ?_
        show (match (den_sign_at [.v (prM ws.length f), .v (.int (k : Int))] P) with | .ok y _ => y | _ => .none) = _
        rw [sign_okM ws.length f k hkl P]
        rfl
      rw [em]
      exact mJoin_signs _ hr
  · refine congrArg PyData.list ?_
    unfold rangeD
    rw [List.map_map]
    refine List.ext_getElem? fun i => ?_
    rw [List.getElem?_map]; rw [List.getElem?_map]
    by_cases hi : i < ws.length
    · rw [List.getElem?_range hi, List.getElem?_eq_getElem hi]
      show some (wD (runS t (ws.getD ((0 : Int) + (i : Nat)).toNat []))) = some (wD (runS t ws[i]))
      rw [show ((0 : Int) + (i : Nat)).toNat = i by omega, List.getD_eq_getElem?_getD, List.getElem?_eq_getElem hi]; rfl
    · rw [List.getElem?_eq_none (by simp; omega), List.getElem?_eq_none (by omega)]; rfl
end Tk
end
section
set_option autoImplicit false
set_option maxRecDepth 100000
set_option maxHeartbeats 1000000
/-! N21: the law's list of all words; tables and tellings of nets. -/
namespace Tk
open PySem Vl L2 TL
abbrev alComp : Vl.Env → M D := dComp (itD (dVar 1)) (tgName 6) tsNil (d2 dAdd (bVar 5) (bVar 6)) [6]
theorem alComp_ok (bs u : List Sg) (hb : bs.length ≤ 3) (hu : u.length ≤ 8) (x0 x2 x3 x4 x6 : SV) (P : Pen) : alComp [x0, .v (wD bs), x2, x3, x4, .v (wD u), x6] P = .ok (.list ((bs.map fun s => u ++ [s]).map wD)) P := by
  have z := itD_str (f := dVar 1) (env := [x0, .v (wD bs), x2, x3, x4, .v (wD u), x6]) (P := P) (s := wordS bs) (dVar_v rfl)
  rw [signs_wordS] at z
  have c := dComp_map (it := itD (dVar 1)) (tg := tgName 6) (elt := d2 dAdd (bVar 5) (bVar 6)) (vs := [6]) (env := [x0, .v (wD bs), x2, x3, x4, .v (wD u), x6]) (P := P) (ds := bs.map sD) (fun d1 => (dAdd (wD u) d1).getD .none) z (by rw [List.length_map]; omega) fun d1 hd1 => by
    obtain ⟨s, _, rfl⟩ := List.mem_map.mp hd1
    have a := add_sg u s (by omega)
    refine ⟨_, rfl, ?_⟩
    rw [a]
    exact d2_ok (bVar_v rfl) (bVar_v rfl) a
  rw [show alComp = dComp (itD (dVar 1)) (tgName 6) tsNil (d2 dAdd (bVar 5) (bVar 6)) [6] from rfl, c]
  refine congrArg (fun l => R.ok (PyData.list l) P) ?_
  rw [List.map_map]; rw [List.map_map]
  refine List.map_congr_left fun s _ => ?_
  show (dAdd (wD u) (sD s)).getD .none = wD (u ++ [s])
  rw [add_sg u s (by omega)]
  rfl
theorem all_inner (bs : List Sg) (hb : bs.length ≤ 3) (x0 x2 x3 x6 : SV) (P : Pen) : ∀ (us : List (List Sg)) (ls : List D) (x5 : SV), (∀ u ∈ us, u.length ≤ 8) → ls.length + 3 * us.length ≤ 1000000 →
    ∃ y5, loopD (tgName 5) (sSet 4 (d2 dCat (bVar 4) alComp)) (us.map wD) [x0, .v (wD bs), x2, x3, .v (.list ls), x5, x6] P = .ok (.nx [x0, .v (wD bs), x2, x3, .v (.list (ls ++ (us.flatMap fun w => bs.map fun s => w ++ [s]).map wD)), y5, x6]) P
  | [], ls, x5, _, _ => ⟨x5, by rw [List.flatMap_nil, List.map_nil, List.append_nil]; rfl⟩
  | u :: us, ls, x5, h, hl => by
    rw [List.length_cons] at hl
    have hg : ((bs.map fun s => u ++ [s]).map wD).length ≤ 3 := by rw [List.length_map, List.length_map]; exact hb
    obtain ⟨y5, q⟩ := all_inner bs hb x0 x2 x3 x6 P us (ls ++ (bs.map fun s => u ++ [s]).map wD) (.v (wD u)) (fun v hv => h v (List.mem_cons_of_mem _ hv)) (by rw [List.length_append]; omega)
    refine ⟨y5, ?_⟩
    rw [List.map_cons]
    unfold loopD
    show bnd (sSet 4 _ [x0, .v (wD bs), x2, x3, .v (.list ls), .v (wD u), x6]) _ P = _
    have hs := sSet_ok (i := 4) (env := [x0, .v (wD bs), x2, x3, .v (.list ls), .v (wD u), x6]) (P := P) (d2_ok (op := dCat) (bVar_v (i := 4) rfl) (alComp_ok bs u hb (h u List.mem_cons_self) x0 x2 x3 (.v (.list ls)) x6 P) (show dCat (.list ls) (.list _) = some (.list (ls ++ (bs.map fun s => u ++ [s]).map wD)) from guardD_of (decide_eq_true (by omega))))
    rw [bnd_ok hs, List.flatMap_cons, List.map_append, ← List.append_assoc]
    exact q
theorem all_outer (bs : List Sg) (hb : bs.length ≤ 3) (x0 : SV) (P : Pen) : ∀ (ds : List D) (k : Nat) (x3 x4 x5 x6 : SV), k + ds.length ≤ 8 →
    ∃ y3 y4 y5 y6, loopD (tgName 3) (sSeq (sSet 4 (dLst aNil)) (sSeq (sFor (itD (dVar 2)) (tgName 5) (sSet 4 (d2 dCat (bVar 4) alComp))) (sSet 2 (dVar 4)))) ds [x0, .v (wD bs), .v (.list ((allS bs k).map wD)), x3, x4, x5, x6] P = .ok (.nx [x0, .v (wD bs), .v (.list ((allS bs (k + ds.length)).map wD)), y3, y4, y5, y6]) P
  | [], k, x3, x4, x5, x6, _ => ⟨x3, x4, x5, x6, rfl⟩
  | d :: ds, k, x3, x4, x5, x6, h => by
    rw [List.length_cons] at h
    have hlen : (allS bs k).length ≤ 6561 := by
      rw [allS_len]
      exact Nat.le_trans (Nat.le_trans (Nat.pow_le_pow_left hb k) (Nat.pow_le_pow_right (by decide) (show k ≤ 8 by omega))) (by decide)
    obtain ⟨y5, q1⟩ := all_inner bs hb x0 (.v (.list ((allS bs k).map wD))) (.v d) x6 P (allS bs k) [] x5 (fun u hu => by rw [allS_mem bs k u hu]; omega) (by rw [List.length_nil]; omega)
    obtain ⟨z3, z4, z5, z6, q2⟩ := all_outer bs hb x0 P ds (k + 1) (.v d) (.v (.list ((allS bs (k + 1)).map wD))) y5 x6 (by omega)
    refine ⟨z3, z4, z5, z6, ?_⟩
    unfold loopD
    show bnd (sSeq _ _ [x0, .v (wD bs), .v (.list ((allS bs k).map wD)), .v d, x4, x5, x6]) _ P = _
    have hb2 := sSeq_nx (s1 := sSet 4 (dLst aNil)) (env := [x0, .v (wD bs), .v (.list ((allS bs k).map wD)), .v d, x4, x5, x6]) (P := P) (sSet_ok (dLst_ok aNil_ok (Nat.le_of_ble_eq_true rfl))) (sSeq_nx (sFor_ok (itD_list (dVar_v (i := 2) rfl)) q1) (sSet_ok (i := 2) (dVar_v (i := 4) rfl)))
    rw [bnd_ok hb2, List.length_cons, show k + (ds.length + 1) = k + 1 + ds.length by omega]
    exact q2
theorem law_all_ok (bs : List Sg) (hb : bs.length ≤ 3) (n : Nat) (hn : n ≤ 8) (P : Pen) : den__law_all [.v (.int (n : Int)), .v (wD bs)] P = .ok (.list ((allS bs n).map wD)) P := by
  have hr : (rangeD 0 n).length = n := by simp [rangeD]
  obtain ⟨y3, y4, y5, y6, q⟩ := all_outer bs hb (.v (.int (n : Int))) P (rangeD 0 n) 0 .un .un .un .un (by rw [hr]; omega)
  rw [hr, Nat.zero_add] at q
  refine denOf_rt ?_
  apply sSeq_nx
  · exact sSet_ok (dLst_ok (aCons_ok dC_ok aNil_ok) (Nat.le_of_ble_eq_true rfl))
  apply sSeq_nx
  · exact sFor_ok (itR1_ok (k := (n : Int)) (by wtm_at "vl evc") (by omega)) (by rw [Int.toNat_natCast]; exact q)
  exact sRet_ok (dVar_v rfl)
/-! ### tables and tellings of nets -/
theorem check_inputs_ok (t : Net) (k : Nat) (h : t.n ≤ k) (P : Pen) : den_check_inputs [.v t.d, .v (.int (k : Int))] P = .ok .none P := by
  refine denOf_nx (sIf_f (tV_ok (d2_ok (d2_ok (bVar_v rfl) dC_ok rfl) (bVar_v rfl) (show dGt (.int (t.n : Int)) (.int (k : Int)) = some (.bool false) from ?_))) sNil_ok)
  show some (PyData.bool (decide ((t.n : Int) > (k : Int)))) = _
  rw [(decide_eq_false (by omega))]
theorem gTuple_list (ds : List D) (h : ds.length ≤ 16777216) : gTuple [.list ds] = some (.tuple ds) := by
  first | rfl | (show (if ds.length ≤ 16777216 then _ else none) = _; rw [if_pos h]) | exact guardD_of (decide_eq_true h)
def tableD (t : Net) : D := .tuple [.int t.n, .tuple ((allS [some false, some true] t.n).map fun w => wD (runS t w))]
def tellingD (t : Net) : D := .tuple [.int t.n, .tuple ((allS [some false, some true, none] t.n).map fun w => wD (runS t w))]
theorem table_ok (t : Net) (h : t.Ok) (hn : t.n ≤ 6) (P : Pen) : den_table_of [.v t.d] P = .ok (tableD t) P := by
  have hl : (allS [some false, some true] t.n).length ≤ 1000 := by
    rw [allS_len]
    exact Nat.le_trans (Nat.pow_le_pow_right (by decide) hn) (by decide)
  refine denOf_rt ?_
  apply sSeq_nx
  · exact sExpr_ok (dCall_ok (aCons_ok (dVar_v rfl) aNil_ok) rfl (check_net_ok t h P))
  apply sSeq_nx
  · exact sExpr_ok (dCall_ok (aCons_ok (dVar_v rfl) (aCons_ok dC_ok aNil_ok)) rfl (check_inputs_ok t 6 hn P))
  apply sSeq_nx
  · exact sSet_ok (d := .int (t.n : Int)) (d2_ok (bVar_v rfl) dC_ok rfl)
  refine sRet_ok (dTup_ok (aCons_ok (dVar_v rfl) (aCons_ok (dB_ok (aCons_ok (dCall_ok (aCons_ok (dVar_v rfl) (aCons_ok (dCall_ok (aCons_ok (dVar_v rfl) aNil_ok) rfl (settled_words_ok t.n (by omega) P)) aNil_ok)) rfl (answers_okM t h _ (fun w hw => allS_mem _ _ w hw) hl P)) aNil_ok) (gTuple_list _ (by rw [List.length_map]; omega))) aNil_ok)) (Nat.le_of_ble_eq_true rfl))
theorem telling_ok (t : Net) (h : t.Ok) (hn : t.n ≤ 5) (P : Pen) : den_telling_of [.v t.d] P = .ok (tellingD t) P := by
  have hl : (allS [some false, some true, none] t.n).length ≤ 1000 := by
    rw [allS_len]
    exact Nat.le_trans (Nat.pow_le_pow_right (by decide) hn) (by decide)
  refine denOf_rt ?_
  apply sSeq_nx
  · exact sExpr_ok (dCall_ok (aCons_ok (dVar_v rfl) aNil_ok) rfl (check_net_ok t h P))
  apply sSeq_nx
  · exact sExpr_ok (dCall_ok (aCons_ok (dVar_v rfl) (aCons_ok dC_ok aNil_ok)) rfl (check_inputs_ok t 5 hn P))
  apply sSeq_nx
  · exact sSet_ok (d := .int (t.n : Int)) (d2_ok (bVar_v rfl) dC_ok rfl)
  refine sRet_ok (dTup_ok (aCons_ok (dVar_v rfl) (aCons_ok (dB_ok (aCons_ok (dCall_ok (aCons_ok (dVar_v rfl) (aCons_ok (dCall_ok (aCons_ok (dVar_v rfl) aNil_ok) rfl (all_words_ok t.n (by omega) P)) aNil_ok)) rfl (answers_okM t h _ (fun w hw => allS_mem _ _ w hw) hl P)) aNil_ok) (gTuple_list _ (by rw [List.length_map]; omega))) aNil_ok)) (Nat.le_of_ble_eq_true rfl))
end Tk
end
section
set_option autoImplicit false
set_option maxRecDepth 100000
set_option maxHeartbeats 1000000
/-! N22: what table_of and telling_of refuse; the law's own rows. -/
namespace Tk
open PySem Vl L2 TL
theorem sRaiseE_ok {c : Str} {fa : Vl.Env → M D} {env : Vl.Env} {P P1 : Pen} {d : D} (h : fa env P = .ok d P1) : sRaiseE c fa env P = .ex c P1 := by
  unfold sRaiseE; rw [bnd_ok h]; rfl
theorem check_inputs_great (t : Net) (k : Nat) (h : k < t.n) (P : Pen) (hk : gStr [.int (k : Int)] = some (.str (Str.ofString (toString k)))) (hs : (Str.ofString (toString k)).length ≤ 1000) : den_check_inputs [.v t.d, .v (.int (k : Int))] P = .ex "TooGreat" P := by
  refine denOf_ex (sIf_t (tV_ok (d2_ok (d2_ok (bVar_v rfl) dC_ok rfl) (bVar_v rfl) (show dGt (.int (t.n : Int)) (.int (k : Int)) = some (.bool true) from ?_))) ?_)
  · show some (PyData.bool (decide ((t.n : Int) > (k : Int)))) = _
    rw [(decide_eq_true (by omega))]
  · have e1 : dAdd (.str "the net has more than ") (.str (Str.ofString (toString k))) = some (.str ("the net has more than " ++ Str.ofString (toString k))) := guardD_of (decide_eq_true (by
      have : Str.length ("the net has more than " : Str) = 22 := rfl
      omega))
    have l1 : (("the net has more than " : Str) ++ Str.ofString (toString k)).length = 22 + (Str.ofString (toString k)).length := by
      rw [strLen_append]; rfl
    have e2 : dAdd (.str ("the net has more than " ++ Str.ofString (toString k))) (.str " inputs") = some (.str (("the net has more than " ++ Str.ofString (toString k)) ++ " inputs")) := guardD_of (decide_eq_true (by
      have : Str.length (" inputs" : Str) = 7 := rfl
      omega))
    have hd : d2 dAdd (d2 dAdd (dC (.str "the net has more than ")) (dB gStr (aCons (bVar 1) aNil))) (dC (.str " inputs")) [.v t.d, .v (.int (k : Int))] P = .ok (.str (("the net has more than " ++ Str.ofString (toString k)) ++ " inputs")) P :=
      d2_ok (d2_ok dC_ok (dB_ok (aCons_ok (bVar_v rfl) aNil_ok) hk) e1) dC_ok e2
    exact sRaiseE_ok hd
theorem table_noNet (d : D) (hf : Fine d) (h : isNetB d = false) (P : Pen) : den_table_of [.v d] P = .ex "NoNet" P :=
  denOf_ex (sSeq_ex (sExpr_ex (dCall_ex (aCons_ok (dVar_v rfl) aNil_ok) rfl (check_net_ex d hf h P))))
theorem telling_noNet (d : D) (hf : Fine d) (h : isNetB d = false) (P : Pen) : den_telling_of [.v d] P = .ex "NoNet" P :=
  denOf_ex (sSeq_ex (sExpr_ex (dCall_ex (aCons_ok (dVar_v rfl) aNil_ok) rfl (check_net_ex d hf h P))))
theorem table_great (t : Net) (h : t.Ok) (hn : 6 < t.n) (P : Pen) : den_table_of [.v t.d] P = .ex "TooGreat" P := by
  refine denOf_ex ?_
  apply sSeq_nx
  · exact sExpr_ok (dCall_ok (aCons_ok (dVar_v rfl) aNil_ok) rfl (check_net_ok t h P))
  exact sSeq_ex (sExpr_ex (dCall_ex (aCons_ok (dVar_v rfl) (aCons_ok dC_ok aNil_ok)) rfl (check_inputs_great t 6 hn P rfl (by decide))))
theorem telling_great (t : Net) (h : t.Ok) (hn : 5 < t.n) (P : Pen) : den_telling_of [.v t.d] P = .ex "TooGreat" P := by
  refine denOf_ex ?_
  apply sSeq_nx
  · exact sExpr_ok (dCall_ok (aCons_ok (dVar_v rfl) aNil_ok) rfl (check_net_ok t h P))
  exact sSeq_ex (sExpr_ex (dCall_ex (aCons_ok (dVar_v rfl) (aCons_ok dC_ok aNil_ok)) rfl (check_inputs_great t 5 hn P rfl (by decide))))
theorem row_map (t : Net) (h : t.Ok) (bs : List Sg) (n : Nat) (hn : n = t.n) (P : Pen) (w : List Sg) (hw : w ∈ allS bs n) : den__law_run [.v t.d, .v (wD w)] P = .ok (wD (runS t w)) P :=
  law_run_ok t h w (by rw [allS_mem bs n w hw, hn]) P
end Tk
end
section
set_option autoImplicit false
set_option maxRecDepth 100000
set_option maxHeartbeats 1000000
/-! N23: what is a word, for any thing. -/
namespace Tk
open PySem Vl L2 TL
def inB (s : D) : Bool := match s with
  | .str a => !(Builtin.Str.occurrences "01?" a 0 (Str.length "01?") 1).isEmpty
  | _ => false
def wordB (d : D) : Bool := match d with
  | .str z => decide (1 ≤ z.length) && decide (z.length ≤ 32) && (signs z).all inB
  | _ => false
theorem sign_str (z : Str) (s : D) (h : s ∈ signs z) : ∃ a, s = .str a := by
  obtain ⟨c, _, rfl⟩ := List.mem_map.mp (show s ∈ z.cps.toList.map signD from h)
  exact ⟨_, rfl⟩
theorem in_ok (z : Str) (s : D) (h : s ∈ signs z) : dInA s (.str "01?") = some (.bool (inB s)) := by
  obtain ⟨a, rfl⟩ := sign_str z s h
  rfl
theorem notin_ok (z : Str) (s : D) (h : s ∈ signs z) : dNotInA s (.str "01?") = some (.bool (!inB s)) := by
  unfold dNotInA
  rw [in_ok z s h]
theorem signs_len (z : Str) : (signs z).length = z.length := by
  show (z.cps.toList.map signD).length = z.cps.size
  simp
theorem str_len (z : Str) (h : z.length ≤ 16777216) : gLen [.str z] = some (.int (z.length : Int)) := by
  show (if z.length ≤ 16777216 then _ else none) = _
  rw [if_pos h]
theorem chain_len (z : Str) (h : z.length ≤ 16777216) (f : Vl.Env → M D) (env : Vl.Env) (P : Pen) (hf : f env P = .ok (.str z) P) : dChain dLe dLe (dC (.int 1)) (dB gLen (aCons f aNil)) (dC (.int 32)) env P = .ok (.bool (decide (1 ≤ z.length) && decide (z.length ≤ 32))) P := by
  have hg := dB_ok (aCons_ok hf aNil_ok) (str_len z h)
  by_cases h1 : 1 ≤ z.length
  · rw [decide_eq_true h1, Bool.true_and]
    refine dChain_t dC_ok hg (show dLe (.int 1) (.int (z.length : Int)) = some (.bool true) by rw [o_le, decide_eq_true (by omega)]) dC_ok ?_
    rw [o_le]
    refine (congrArg (fun b => some (PyData.bool b)) ?_)
    by_cases h2 : z.length ≤ 32
    · rw [decide_eq_true h2, decide_eq_true (by omega)]
    · rw [decide_eq_false h2, decide_eq_false (by omega)]
  · rw [decide_eq_false h1, Bool.false_and]
    exact dChain_f dC_ok hg (show dLe (.int 1) (.int (z.length : Int)) = some (.bool false) by rw [o_le, decide_eq_false (by omega)])
theorem is_word_eq (d : D) (hf : ∀ z, d = .str z → z.length ≤ 16777216) (P : Pen) : den_is_word [.v d] P = .ok (.bool (wordB d)) P := by
  refine denOf_rt ?_
  cases d with
  | str z =>
    have hz := hf z rfl
    have hc := tV_ok (chain_len z hz (bVar 0) [.v (.str z), .un] P (bVar_v rfl))
    rw [show wordB (.str z) = (decide (1 ≤ z.length) && decide (z.length ≤ 32) && (signs z).all inB) from rfl]
    cases hb : (decide (1 ≤ z.length) && decide (z.length ≤ 32)) with
    | false =>
      rw [hb] at hc
      rw [Bool.false_and]
      exact sSeq_rt (sIf_t (mOr_f (by wtm_at "vl evc") (mNot_t hc)) (sRet_ok dC_ok))
    | true =>
      rw [hb] at hc
      refine sSeq_nx (sIf_f (mOr_f (by wtm_at "vl evc") (mNot_f hc)) sNil_ok) (sRet_ok ?_)
      rw [Bool.true_and]
      refine dB_ok (aCons_ok (dComp_map (fun s => .bool (inB s)) (itD_str (dVar_v rfl)) (by rw [signs_len]; exact hz) fun s hs => ?_) aNil_ok) (gAll_map inB (signs z))
      exact ⟨_, rfl, d2_ok (bVar_v rfl) dC_ok (in_ok z s hs)⟩
  | _ => exact sSeq_rt (sIf_t (mOr_t (by wtm_at "vl evc")) (by wtm_at "vl evc"))
def badB (s : D) : Option D := if inB s then none else some (.int 1)
theorem badB_ones (xs : List D) : ∀ y ∈ xs.filterMap badB, y = .int 1 := fun y hy => by
  obtain ⟨x, _, e⟩ := List.mem_filterMap.mp hy
  unfold badB at e
  cases hx : inB x with
  | true => rw [hx, if_pos rfl] at e; cases e
  | false => rw [hx, if_neg (by decide)] at e; cases e; rfl
theorem badB_empty : ∀ xs : List D, (xs.filterMap badB).isEmpty = xs.all inB
  | [] => rfl
  | x :: xs => by
    rw [List.filterMap_cons, List.all_cons]
    cases h : inB x with
    | true => rw [show badB x = none by unfold badB; rw [h, if_pos rfl], Bool.true_and]; exact badB_empty xs
    | false => rw [show badB x = some (.int 1) by unfold badB; rw [h, if_neg (by decide)]]; rfl
theorem law_is_word_eq (d : D) (hf : ∀ z, d = .str z → z.length ≤ 16777216) (P : Pen) : den__law_is_word [.v d] P = .ok (.bool (wordB d)) P := by
  refine denOf_rt (sRet_ok ?_)
  cases d with
  | str z =>
    have hz := hf z rfl
    have hc := chain_len z hz (bVar 0) [.v (.str z), .un] P (bVar_v rfl)
    rw [show wordB (.str z) = (decide (1 ≤ z.length) && decide (z.length ≤ 32) && (signs z).all inB) from rfl]
    refine vAnd_t (by wtm_at "vl evc") ?_
    cases hb : (decide (1 ≤ z.length) && decide (z.length ≤ 32)) with
    | false =>
      rw [hb] at hc
      rw [Bool.false_and]
      exact vAnd_f hc
    | true =>
      rw [hb] at hc
      rw [Bool.true_and]
      refine vAnd_t hc ?_
      refine d2_ok (dComp_filter badB (itD_str (dVar_v rfl)) (by rw [signs_len]; exact hz) fun s hs => ?_) (dLst_ok aNil_ok (Nat.le_of_ble_eq_true rfl)) ((ones_eq _ (badB_ones _)).trans (by rw [badB_empty]))
      refine ⟨_, rfl, ?_⟩
      have hn := tV_ok (d2_ok (op := dNotInA) (bVar_v (i := 1) (env := (wipeE [.v (.str z), .un] [1]).set 1 (.v s)) (P := P) rfl) (dC_ok (d := .str "01?")) (notin_ok z s hs))
      unfold badB
      cases hi : inB s with
      | true => rw [hi] at hn; exact .inl ⟨rfl, hn⟩
      | false => rw [hi] at hn; exact .inr ⟨_, rfl, hn, dC_ok⟩
  | _ => exact vAnd_f (by wtm_at "vl evc")
end Tk
end
section
set_option autoImplicit false
set_option maxRecDepth 100000
set_option maxHeartbeats 1000000
/-! N24: rows, alike or not. -/
namespace Tk
open PySem Vl L2 TL
def slen (d : D) : Nat := match d with
  | .str z => z.length
  | _ => 0
/-- no great text -/
def Short' (d : D) : Prop := ∀ z, d = .str z → z.length ≤ 16777216
theorem wordB_str {d : D} (h : wordB d = true) : ∃ z, d = .str z := by
  cases d with
  | str z => exact ⟨z, rfl⟩
  | _ => cases h
theorem is_word_of_eq (d : D) (hf : Short' d) (k : Nat) (P : Pen) : den_is_word_of [.v d, .v (.int (k : Int))] P = .ok (.bool (wordB d && decide (slen d = k))) P := by
  refine denOf_rt (sRet_ok ?_)
  have hw := is_word_eq d hf P
  cases hb : wordB d with
  | false =>
    rw [hb] at hw
    rw [Bool.false_and]
    exact vAnd_f (dCall_ok (aCons_ok (dVar_v rfl) aNil_ok) rfl hw)
  | true =>
    rw [hb] at hw
    rw [Bool.true_and]
    obtain ⟨z, rfl⟩ := wordB_str hb
    refine vAnd_t (dCall_ok (aCons_ok (dVar_v rfl) aNil_ok) rfl hw) (d2_ok (dB_ok (aCons_ok (bVar_v rfl) aNil_ok) (str_len z (hf z rfl))) (bVar_v rfl) ?_)
    rw [o_eqI]
    refine (congrArg (fun b => some (PyData.bool b)) ?_)
    show decide ((z.length : Int) = (k : Int)) = decide (z.length = k)
    by_cases h : z.length = k
    · rw [decide_eq_true h, decide_eq_true (by omega)]
    · rw [decide_eq_false h, decide_eq_false (by omega)]
def alikeB : List D → Bool
  | [] => false
  | r0 :: rest => wordB r0 && (r0 :: rest).all fun r => wordB r && decide (slen r = slen r0)
theorem are_alike_eq (r0 : D) (rest : List D) (hl : (r0 :: rest).length ≤ 16777216) (hf : ∀ r ∈ r0 :: rest, Short' r) (P : Pen) : den_are_alike [.v (.tuple (r0 :: rest))] P = .ok (.bool (alikeB (r0 :: rest))) P := by
  refine denOf_rt (sRet_ok ?_)
  have hw := is_word_eq r0 (hf r0 List.mem_cons_self) P
  rw [show alikeB (r0 :: rest) = (wordB r0 && (r0 :: rest).all fun r => wordB r && decide (slen r = slen r0)) from rfl]
  cases hb : wordB r0 with
  | false =>
    rw [hb] at hw
    rw [Bool.false_and]
    exact vAnd_f (dCall_ok (aCons_ok (d2_ok (bVar_v rfl) dC_ok (ix0 _ _)) aNil_ok) rfl hw)
  | true =>
    rw [hb] at hw
    rw [Bool.true_and]
    obtain ⟨z, rfl⟩ := wordB_str hb
    refine vAnd_t (dCall_ok (aCons_ok (d2_ok (bVar_v rfl) dC_ok (ix0 _ _)) aNil_ok) rfl hw) ?_
    refine dB_ok (aCons_ok (dComp_map (fun r => .bool (wordB r && decide (slen r = slen (.str z)))) (itD_tup (dVar_v rfl)) hl fun r hr => ?_) aNil_ok) (gAll_map (fun r => wordB r && decide (slen r = slen (.str z))) _)
    exact ⟨_, rfl, dCall_ok (aCons_ok (dVar_v rfl) (aCons_ok (dB_ok (aCons_ok (d2_ok (bVar_v rfl) dC_ok (ix0 _ _)) aNil_ok) (str_len z (hf _ List.mem_cons_self z rfl))) aNil_ok)) rfl (is_word_of_eq r (hf r hr) z.length P)⟩
def hasB (d : D) (most : Int) : Bool := match d with
  | .tuple [n, r] => isCnt n 1 most && isD "tuple" r
  | _ => false
theorem has_rows_eq (d : D) (most : Int) (P : Pen) : den_has_rows [.v d, .v (.int most)] P = .ok (.bool (hasB d most)) P := by
  refine denOf_rt ?_
  cases d with
  | tuple xs =>
    have hlen : d2 dNeA (dB gLen (aCons (bVar 0) aNil)) (dC (.int 2)) [.v (.tuple xs), .v (.int most)] P = .ok (.bool (!decide ((xs.length : Int) = 2))) P :=
      d2_ok (dB_ok (aCons_ok (bVar_v rfl) aNil_ok) (glen_tup xs)) dC_ok o_neI
    match xs, hlen with
    | [n, r], hlen =>
      refine sSeq_nx (sIf_f (mOr_f (by wtm_at "vl evc") (tV_ok hlen)) sNil_ok) (sRet_ok ?_)
      have hc := is_count_eq n 1 most P
      rw [show hasB (.tuple [n, r]) most = (isCnt n 1 most && isD "tuple" r) from rfl]
      cases hb : isCnt n 1 most with
      | false => rw [hb] at hc; rw [Bool.false_and]; exact vAnd_f (dCall_ok (aCons_ok (d2_ok (bVar_v rfl) dC_ok (ix0 _ _)) (aCons_ok dC_ok (aCons_ok (dVar_v rfl) aNil_ok))) rfl hc)
      | true =>
        rw [hb] at hc; rw [Bool.true_and]
        exact vAnd_t (dCall_ok (aCons_ok (d2_ok (bVar_v rfl) dC_ok (ix0 _ _)) (aCons_ok dC_ok (aCons_ok (dVar_v rfl) aNil_ok))) rfl hc) (dIsi_ok (d2_ok (bVar_v rfl) dC_ok rfl))
    | [], hlen => exact sSeq_rt (sIf_t (mOr_f (by wtm_at "vl evc") (tV_ok hlen)) (sRet_ok dC_ok))
    | [_], hlen => exact sSeq_rt (sIf_t (mOr_f (by wtm_at "vl evc") (tV_ok hlen)) (sRet_ok dC_ok))
    | a :: b :: c :: r, hlen =>
      have e : (!decide (((a :: b :: c :: r).length : Int) = 2)) = true := by
        rw [decide_eq_false (by rw [List.length_cons, List.length_cons, List.length_cons]; omega)]; rfl
      rw [e] at hlen
      exact sSeq_rt (sIf_t (mOr_f (by wtm_at "vl evc") (tV_ok hlen)) (sRet_ok dC_ok))
  | _ => exact sSeq_rt (sIf_t (mOr_t (by wtm_at "vl evc")) (by wtm_at "vl evc"))
end Tk
end
section
set_option autoImplicit false
set_option maxRecDepth 100000
set_option maxHeartbeats 1000000
/-! N25: is_table, is_telling. -/
namespace Tk
open PySem Vl L2 TL
def qB (r : D) : Bool := match r with
  | .str z => !(Builtin.Str.occurrences z "?" 0 z.length 1).isEmpty
  | _ => false
theorem q_in (z : Str) : dInA (.str "?") (.str z) = some (.bool (qB (.str z))) := rfl
theorem q_notin (z : Str) : dNotInA (.str "?") (.str z) = some (.bool (!qB (.str z))) := by
  unfold dNotInA
  rw [q_in]
def PairOk (d : D) : Prop := ∀ n rows, d = .tuple [n, .tuple rows] → rows.length ≤ 16777216 ∧ ∀ r ∈ rows, Short' r
def tellB (d : D) : Bool := hasB d 5 && match d with
  | .tuple [.int n, .tuple rows] => decide (rows.length = 3 ^ n.toNat) && alikeB rows
  | _ => false
def tableB (d : D) : Bool := hasB d 6 && match d with
  | .tuple [.int n, .tuple rows] => decide (rows.length = 2 ^ n.toNat) && alikeB rows && rows.all fun r => !qB r
  | _ => false
theorem hasB_shape {d : D} {most : Int} (h : hasB d most = true) : ∃ (k : Nat) (rows : List D), d = .tuple [.int (k : Int), .tuple rows] ∧ 1 ≤ k ∧ (k : Int) ≤ most := by
  unfold hasB at h
  split at h
  · rename_i n r
    rw [Bool.and_eq_true] at h
    obtain ⟨h1, h2⟩ := h
    unfold isCnt at h1
    cases n with
    | int i =>
      rw [Bool.and_eq_true] at h1
      have a := of_decide_eq_true h1.1
      have b := of_decide_eq_true h1.2
      obtain ⟨k, rfl⟩ := Int.eq_ofNat_of_zero_le (show 0 ≤ i by omega)
      cases r with
      | tuple rows => exact ⟨k, rows, rfl, by omega, b⟩
      | _ => cases h2
    | _ => cases h1
  · cases h
theorem len_ne (a b : Nat) (P : Pen) : dNeA (.int (a : Int)) (.int (b : Int)) = some (.bool (!decide (a = b))) := by
  rw [o_neI]
  refine congrArg (fun c => some (PyData.bool (!c))) ?_
  by_cases h : a = b
  · rw [decide_eq_true h, decide_eq_true (by omega)]
  · rw [decide_eq_false h, decide_eq_false (by omega)]
theorem len_eq (a b : Nat) (P : Pen) : dEqA (.int (a : Int)) (.int (b : Int)) = some (.bool (decide (a = b))) := by
  rw [o_eqI]
  refine congrArg (fun c => some (PyData.bool c)) ?_
  by_cases h : a = b
  · rw [decide_eq_true h, decide_eq_true (by omega)]
  · rw [decide_eq_false h, decide_eq_false (by omega)]
theorem alikeB_str {rows : List D} (h : alikeB rows = true) : ∀ r ∈ rows, ∃ z, r = .str z := by
  cases rows with
  | nil => cases h
  | cons r0 rest =>
    rw [show alikeB (r0 :: rest) = (wordB r0 && (r0 :: rest).all fun r => wordB r && decide (slen r = slen r0)) from rfl, Bool.and_eq_true] at h
    intro r hr
    have := List.all_eq_true.mp h.2 r hr
    rw [Bool.and_eq_true] at this
    exact wordB_str this.1
theorem is_telling_eq (d : D) (hd : PairOk d) (P : Pen) : den_is_telling [.v d] P = .ok (.bool (tellB d)) P := by
  refine denOf_rt ?_
  have hh := has_rows_eq d 5 P
  unfold tellB
  cases hb : hasB d 5 with
  | false =>
    rw [hb] at hh
    rw [Bool.false_and]
    exact sSeq_rt (sIf_t (mNot_t (tTru_ok (dCall_ok (aCons_ok (dVar_v rfl) (aCons_ok dC_ok aNil_ok)) rfl hh) rfl)) (sRet_ok dC_ok))
  | true =>
    rw [hb] at hh
    rw [Bool.true_and]
    obtain ⟨k, rows, rfl, h1, h2⟩ := hasB_shape hb
    obtain ⟨hl, hr⟩ := hd _ _ rfl
    apply sSeq_nx
    · exact sIf_f (mNot_f (tTru_ok (dCall_ok (aCons_ok (dVar_v rfl) (aCons_ok dC_ok aNil_ok)) rfl hh) rfl)) sNil_ok
    apply sSeq_nx
    · exact sAsg_ok (dVar_v rfl) rfl
    refine sRet_ok ?_
    show _ = R.ok (PyData.bool (decide (rows.length = 3 ^ (k : Int).toNat) && alikeB rows)) P
    rw [Int.toNat_natCast]
    have hlen : d2 dEqA (dB gLen (aCons (bVar 2) aNil)) (dB gLen (aCons (dCall 1 den_all_words (aCons (dVar 1) aNil)) aNil)) [.v (.tuple [.int (k : Int), .tuple rows]), .v (.int (k : Int)), .v (.tuple rows)] P = .ok (.bool (decide (rows.length = 3 ^ k))) P := by
      refine d2_ok (dB_ok (aCons_ok (bVar_v rfl) aNil_ok) (glen_tup rows)) (dB_ok (aCons_ok (dCall_ok (aCons_ok (dVar_v rfl) aNil_ok) rfl (all_words_ok k (by omega) P)) aNil_ok) (gLen_list _)) ?_
      rw [List.length_map, allS_len]
      exact len_eq _ _ P
    cases hc : decide (rows.length = 3 ^ k) with
    | false => rw [hc] at hlen; rw [Bool.false_and]; exact vAnd_f hlen
    | true =>
      rw [hc] at hlen
      rw [Bool.true_and]
      refine vAnd_t hlen ?_
      have e := of_decide_eq_true hc
      have hp : 0 < 3 ^ k := Nat.pow_pos (by decide)
      cases rows with
      | nil => rw [List.length_nil] at e; omega
      | cons r0 rest => exact dCall_ok (aCons_ok (dVar_v rfl) aNil_ok) rfl (are_alike_eq r0 rest hl hr P)
theorem is_table_eq (d : D) (hd : PairOk d) (P : Pen) : den_is_table [.v d] P = .ok (.bool (tableB d)) P := by
  refine denOf_rt ?_
  have hh := has_rows_eq d 6 P
  unfold tableB
  cases hb : hasB d 6 with
  | false =>
    rw [hb] at hh
    rw [Bool.false_and]
    exact sSeq_rt (sIf_t (mNot_t (tTru_ok (dCall_ok (aCons_ok (dVar_v rfl) (aCons_ok dC_ok aNil_ok)) rfl hh) rfl)) (sRet_ok dC_ok))
  | true =>
    rw [hb] at hh
    rw [Bool.true_and]
    obtain ⟨k, rows, rfl, h1, h2⟩ := hasB_shape hb
    obtain ⟨hl, hr⟩ := hd _ _ rfl
    apply sSeq_nx
    · exact sIf_f (mNot_f (tTru_ok (dCall_ok (aCons_ok (dVar_v rfl) (aCons_ok dC_ok aNil_ok)) rfl hh) rfl)) sNil_ok
    apply sSeq_nx
    · exact sAsg_ok (dVar_v rfl) rfl
    show _ = R.ok (Fl.rt (PyData.bool (decide (rows.length = 2 ^ (k : Int).toNat) && alikeB rows && rows.all fun r => !qB r))) P
    rw [Int.toNat_natCast]
    have hlen : d2 dNeA (dB gLen (aCons (bVar 2) aNil)) (dB gLen (aCons (dCall 1 den_settled_words (aCons (dVar 1) aNil)) aNil)) [.v (.tuple [.int (k : Int), .tuple rows]), .v (.int (k : Int)), .v (.tuple rows), .un] P = .ok (.bool (!decide (rows.length = 2 ^ k))) P := by
      refine d2_ok (dB_ok (aCons_ok (bVar_v rfl) aNil_ok) (glen_tup rows)) (dB_ok (aCons_ok (dCall_ok (aCons_ok (dVar_v rfl) aNil_ok) rfl (settled_words_ok k (by omega) P)) aNil_ok) (gLen_list _)) ?_
      rw [List.length_map, allS_len]
      exact len_ne _ _ P
    cases hc : decide (rows.length = 2 ^ k) with
    | false => rw [hc] at hlen; rw [Bool.false_and, Bool.false_and]; exact sSeq_rt (sIf_t (mOr_t (tV_ok hlen)) (sRet_ok dC_ok))
    | true =>
      rw [hc] at hlen
      rw [Bool.true_and]
      have e := of_decide_eq_true hc
      have hp : 0 < 2 ^ k := Nat.pow_pos (by decide)
      cases rows with
      | nil => rw [List.length_nil] at e; omega
      | cons r0 rest =>
        have ha := are_alike_eq r0 rest hl hr P
        cases hal : alikeB (r0 :: rest) with
        | false =>
          rw [hal] at ha
          rw [Bool.false_and]
          exact sSeq_rt (sIf_t (mOr_f (tV_ok hlen) (mNot_t (tTru_ok (dCall_ok (aCons_ok (dVar_v rfl) aNil_ok) rfl ha) rfl))) (sRet_ok dC_ok))
        | true =>
          rw [hal] at ha
          rw [Bool.true_and]
          refine sSeq_nx (sIf_f (mOr_f (tV_ok hlen) (mNot_f (tTru_ok (dCall_ok (aCons_ok (dVar_v rfl) aNil_ok) rfl ha) rfl))) sNil_ok) (sRet_ok ?_)
          refine dB_ok (aCons_ok (dComp_map (fun r => .bool (!qB r)) (itD_tup (dVar_v rfl)) hl fun r hr2 => ?_) aNil_ok) (gAll_map (fun r => !qB r) _)
          obtain ⟨z, rfl⟩ := alikeB_str hal r hr2
          exact ⟨_, rfl, d2_ok dC_ok (bVar_v rfl) (q_notin z)⟩
end Tk
end
section
set_option autoImplicit false
set_option maxRecDepth 100000
set_option maxHeartbeats 1000000
/-! N26: the law's own look at pairs. -/
namespace Tk
open PySem Vl L2 TL
def fl (p : D → Bool) (d : D) : Option D := if p d then none else some (.int 1)
theorem fl_ones (p : D → Bool) (xs : List D) : ∀ y ∈ xs.filterMap (fl p), y = .int 1 := fun y hy => by
  obtain ⟨x, _, e⟩ := List.mem_filterMap.mp hy
  unfold fl at e
  cases hx : p x with
  | true => rw [hx, if_pos rfl] at e; cases e
  | false => rw [hx, if_neg (by decide)] at e; cases e; rfl
theorem fl_empty (p : D → Bool) : ∀ xs : List D, (xs.filterMap (fl p)).isEmpty = xs.all p
  | [] => rfl
  | x :: xs => by
    rw [List.filterMap_cons, List.all_cons]
    cases h : p x with
    | true => rw [show fl p x = none by unfold fl; rw [h, if_pos rfl], Bool.true_and]; exact fl_empty p xs
    | false => rw [show fl p x = some (.int 1) by unfold fl; rw [h, if_neg (by decide)]]; rfl
theorem alikeB_split (r0 : D) (rest : List D) : alikeB (r0 :: rest) = ((r0 :: rest).all wordB && (r0 :: rest).all fun r => decide (slen r = slen r0)) := by
  rw [show alikeB (r0 :: rest) = (wordB r0 && (r0 :: rest).all fun r => wordB r && decide (slen r = slen r0)) from rfl]
  rw [Bool.eq_iff_iff, Bool.and_eq_true, Bool.and_eq_true, List.all_eq_true, List.all_eq_true, List.all_eq_true]
  constructor
  · rintro ⟨_, h⟩
    exact ⟨fun x hx => (Bool.and_eq_true _ _ ▸ h x hx).1, fun x hx => (Bool.and_eq_true _ _ ▸ h x hx).2⟩
  · rintro ⟨h1, h2⟩
    exact ⟨h1 r0 List.mem_cons_self, fun x hx => Bool.and_eq_true _ _ ▸ ⟨h1 x hx, h2 x hx⟩⟩
def pairB (bs : List Sg) (most : Int) (d : D) : Bool := hasB d most && match d with
  | .tuple [.int n, .tuple rows] => decide (rows.length = bs.length ^ n.toNat) && alikeB rows
  | _ => false
theorem law_is_pair_eq (bs : List Sg) (hb : bs.length ≤ 3) (hb1 : 1 ≤ bs.length) (most : Int) (hm : most ≤ 6) (d : D) (hd : PairOk d) (P : Pen) : den__law_is_pair [.v d, .v (.int most), .v (wD bs)] P = .ok (.bool (pairB bs most d)) P := by
  refine denOf_rt ?_
  cases d with
  | tuple xs =>
    have hlen : d2 dNeA (dB gLen (aCons (bVar 0) aNil)) (dC (.int 2)) [.v (.tuple xs), .v (.int most), .v (wD bs), .un] P = .ok (.bool (!decide ((xs.length : Int) = 2))) P :=
      d2_ok (dB_ok (aCons_ok (bVar_v rfl) aNil_ok) (glen_tup xs)) dC_ok o_neI
    match xs, hlen, hd with
    | [n, r], hlen, hd =>
      have i0 : d2 dIxA (bVar 0) (dC (.int 0)) [.v (.tuple [n, r]), .v (.int most), .v (wD bs), .un] P = .ok n P := d2_ok (bVar_v rfl) dC_ok (ix0 _ _)
      have i1 : ∀ x, d2 dIxA (bVar 0) (dC (.int 1)) [.v (.tuple [n, r]), .v (.int most), .v (wD bs), x] P = .ok r P := fun x => d2_ok (bVar_v rfl) dC_ok rfl
      cases n with
      | int i =>
        have f1 := sIf_f (s1 := sRet (dC (.bool false))) (P := P) (env := [.v (.tuple [.int i, r]), .v (.int most), .v (wD bs), .un]) (c := mOr (mNot (tTru (dIsi "tuple" (bVar 0)))) (mOr (tV (d2 dNeA (dB gLen (aCons (bVar 0) aNil)) (dC (.int 2)))) (mOr (mNot (tTru (dIsi "int" (d2 dIxA (bVar 0) (dC (.int 0)))))) (tTru (dIsi "bool" (d2 dIxA (bVar 0) (dC (.int 0)))))))) (mOr_f (by wtm_at "vl evc") (mOr_f (tV_ok hlen) (mOr_f (mNot_f (tTru_ok (dIsi_ok i0) rfl)) (tTru_ok (dIsi_ok i0) rfl)))) sNil_ok
        have hch : tV (dChain dLe dLe (dC (.int 1)) (d2 dIxA (bVar 0) (dC (.int 0))) (bVar 1)) [.v (.tuple [.int i, r]), .v (.int most), .v (wD bs), .un] P = .ok (decide (1 ≤ i) && decide (i ≤ most)) P := by
          refine tV_ok ?_
          cases h1 : decide (1 ≤ i) with
          | true => rw [Bool.true_and]; exact dChain_t dC_ok i0 (by rw [o_le, h1]) (bVar_v rfl) o_le
          | false => rw [Bool.false_and]; exact dChain_f dC_ok i0 (by rw [o_le, h1])
        have eh : hasB (.tuple [.int i, r]) most = (decide (1 ≤ i) && decide (i ≤ most) && isD "tuple" r) := rfl
        refine sSeq_nx f1 ?_
        unfold pairB
        rw [eh]
        cases hc : (decide (1 ≤ i) && decide (i ≤ most)) with
        | false =>
          rw [hc] at hch
          rw [Bool.false_and, Bool.false_and]
          exact sSeq_rt (sIf_t (mOr_t (mNot_t hch)) (sRet_ok dC_ok))
        | true =>
          rw [hc] at hch
          rw [Bool.true_and]
          cases r with
          | tuple rows =>
            rw [show isD "tuple" (.tuple rows) = true from rfl, Bool.true_and]
            show _ = R.ok (Fl.rt (PyData.bool (decide (rows.length = bs.length ^ i.toNat) && alikeB rows))) P
            rw [Bool.and_eq_true] at hc
            have a1 := of_decide_eq_true hc.1
            have a2 := of_decide_eq_true hc.2
            obtain ⟨k, rfl⟩ := Int.eq_ofNat_of_zero_le (show 0 ≤ i by omega)
            rw [Int.toNat_natCast]
            obtain ⟨hl, hr⟩ := hd _ _ rfl
            have hn : tV (d2 dNeA (dB gLen (aCons (d2 dIxA (bVar 0) (dC (.int 1))) aNil)) (dB gLen (aCons (dCall 2 den__law_all (aCons (d2 dIxA (bVar 0) (dC (.int 0))) (aCons (dVar 2) aNil))) aNil))) [.v (.tuple [.int (k : Int), .tuple rows]), .v (.int most), .v (wD bs), .un] P = .ok (!decide (rows.length = bs.length ^ k)) P := by
              refine tV_ok (d2_ok (dB_ok (aCons_ok (i1 _) aNil_ok) (glen_tup rows)) (dB_ok (aCons_ok (dCall_ok (aCons_ok i0 (aCons_ok (dVar_v rfl) aNil_ok)) rfl (law_all_ok bs hb k (by omega) P)) aNil_ok) (gLen_list _)) ?_)
              rw [List.length_map, allS_len]
              exact len_ne _ _ P
            cases hq : decide (rows.length = bs.length ^ k) with
            | false =>
              rw [hq] at hn
              rw [Bool.false_and]
              exact sSeq_rt (sIf_t (mOr_f (mNot_f hch) (mOr_f (mNot_f (tTru_ok (dIsi_ok (i1 _)) rfl)) hn)) (sRet_ok dC_ok))
            | true =>
              rw [hq] at hn
              rw [Bool.true_and]
              refine sSeq_nx (sIf_f (mOr_f (mNot_f hch) (mOr_f (mNot_f (tTru_ok (dIsi_ok (i1 _)) rfl)) hn)) sNil_ok) ?_
              have e := of_decide_eq_true hq
              have hp : 0 < bs.length ^ k := Nat.pow_pos hb1
              cases rows with
              | nil => rw [List.length_nil] at e; omega
              | cons r0 rest =>
                rw [alikeB_split]
                have f3 : tV (d2 dNeA (dComp (itD (d2 dIxA (bVar 0) (dC (.int 1)))) (tgName 3) (mNot (tTru (dCall 1 den__law_is_word (aCons (dVar 3) aNil)))) (dC (.int 1)) [3]) (dLst aNil)) [.v (.tuple [.int (k : Int), .tuple (r0 :: rest)]), .v (.int most), .v (wD bs), .un] P = .ok (!(r0 :: rest).all wordB) P := by
                  refine tV_ok (d2_ok (dComp_filter (fl wordB) (itD_tup (i1 _)) hl fun x hx => ⟨_, rfl, ?_⟩) (dLst_ok aNil_ok (Nat.le_of_ble_eq_true rfl)) ((ones_ne _ (fl_ones _ _)).trans (by rw [fl_empty])))
                  have hcx := tTru_ok (dCall_ok (n := 1) (den := den__law_is_word) (P2 := P) (env := (wipeE [.v (.tuple [.int (k : Int), .tuple (r0 :: rest)]), .v (.int most), .v (wD bs), .un] [3]).set 3 (.v x)) (P := P) (aCons_ok (dVar_v (i := 3) rfl) aNil_ok) rfl (law_is_word_eq x (hr x hx) P)) (show dTru (.bool (wordB x)) = some (wordB x) from rfl)
                  unfold fl
                  cases hwx : wordB x with
                  | true => rw [hwx] at hcx; exact .inl ⟨rfl, mNot_f hcx⟩
                  | false => rw [hwx] at hcx; exact .inr ⟨_, rfl, mNot_t hcx, dC_ok⟩
                cases hall : (r0 :: rest).all wordB with
                | false =>
                  rw [hall] at f3
                  rw [Bool.false_and]
                  exact sSeq_rt (sIf_t f3 (sRet_ok dC_ok))
                | true =>
                  rw [hall] at f3
                  rw [Bool.true_and]
                  have hs : ∀ x ∈ r0 :: rest, ∃ z, x = .str z := fun x hx => wordB_str (List.all_eq_true.mp hall x hx)
                  obtain ⟨z0, rfl⟩ := hs r0 List.mem_cons_self
                  refine sSeq_nx (sIf_f f3 sNil_ok) (sRet_ok (d2_ok (dComp_filter (fl fun r => decide (slen r = slen (.str z0))) (itD_tup (i1 _)) hl fun x hx => ⟨_, rfl, ?_⟩) (dLst_ok aNil_ok (Nat.le_of_ble_eq_true rfl)) ((ones_eq _ (fl_ones _ _)).trans (by rw [fl_empty]))))
                  obtain ⟨z, rfl⟩ := hs x hx
                  have hne : tV (d2 dNeA (dB gLen (aCons (bVar 3) aNil)) (dB gLen (aCons (d2 dIxA (d2 dIxA (bVar 0) (dC (.int 1))) (dC (.int 0))) aNil))) [.v (.tuple [.int (k : Int), .tuple (.str z0 :: rest)]), .v (.int most), .v (wD bs), .v (.str z)] P = .ok (!decide (z.length = z0.length)) P :=
                    tV_ok (d2_ok (dB_ok (aCons_ok (bVar_v rfl) aNil_ok) (str_len z (hr _ hx z rfl))) (dB_ok (aCons_ok (d2_ok (i1 _) dC_ok (ix0 _ _)) aNil_ok) (str_len z0 (hr _ List.mem_cons_self z0 rfl))) (len_ne _ _ P))
                  unfold fl
                  cases hzz : decide (z.length = z0.length) with
                  | true => rw [hzz] at hne; exact .inl ⟨if_pos hzz, hne⟩
                  | false => rw [hzz] at hne; exact .inr ⟨_, if_neg (by show ¬ (decide (z.length = z0.length) = true); rw [hzz]; decide), hne, dC_ok⟩
          | _ => exact sSeq_rt (sIf_t (mOr_f (mNot_f hch) (mOr_t (mNot_t (tTru_ok (dIsi_ok (i1 _)) rfl)))) (sRet_ok dC_ok))
      | bool b => exact sSeq_rt (sIf_t (mOr_f (by wtm_at "vl evc") (mOr_f (tV_ok hlen) (mOr_f (mNot_f (tTru_ok (dIsi_ok i0) rfl)) (tTru_ok (dIsi_ok i0) rfl)))) (sRet_ok dC_ok))
      | _ => exact sSeq_rt (sIf_t (mOr_f (by wtm_at "vl evc") (mOr_f (tV_ok hlen) (mOr_t (mNot_t (tTru_ok (dIsi_ok i0) rfl))))) (sRet_ok dC_ok))
    | [], hlen, _ => exact sSeq_rt (sIf_t (mOr_f (by wtm_at "vl evc") (mOr_t (tV_ok hlen))) (sRet_ok dC_ok))
    | [_], hlen, _ => exact sSeq_rt (sIf_t (mOr_f (by wtm_at "vl evc") (mOr_t (tV_ok hlen))) (sRet_ok dC_ok))
    | a :: b :: c :: r, hlen, _ =>
      have e : (!decide (((a :: b :: c :: r).length : Int) = 2)) = true := by
        rw [decide_eq_false (by rw [List.length_cons, List.length_cons, List.length_cons]; omega)]; rfl
      rw [e] at hlen
      exact sSeq_rt (sIf_t (mOr_f (by wtm_at "vl evc") (mOr_t (tV_ok hlen))) (sRet_ok dC_ok))
  | _ => exact sSeq_rt (sIf_t (mOr_t (by wtm_at "vl evc")) (by wtm_at "vl evc"))
end Tk
end
section
set_option autoImplicit false
set_option maxRecDepth 100000
set_option maxHeartbeats 1000000
/-! N27: the law's own look at tables; both looks tell the same. -/
namespace Tk
open PySem Vl L2 TL
theorem tellB_pair (d : D) : tellB d = pairB [some false, some true, none] 5 d := rfl
theorem tableB_pair (d : D) : tableB d = (pairB [some false, some true] 6 d && match d with
  | .tuple [.int _, .tuple rows] => rows.all fun r => !qB r
  | _ => false) := by
  unfold tableB pairB
  split
  · rw [← Bool.and_assoc]; rfl
  · simp
theorem pairB_shape {bs : List Sg} {most : Int} {d : D} (h : pairB bs most d = true) : ∃ (k : Nat) (rows : List D), d = .tuple [.int (k : Int), .tuple rows] ∧ alikeB rows = true := by
  unfold pairB at h
  rw [Bool.and_eq_true] at h
  obtain ⟨k, rows, rfl, _, _⟩ := hasB_shape h.1
  exact ⟨k, rows, rfl, (Bool.and_eq_true _ _ ▸ (show (decide (rows.length = bs.length ^ (k : Int).toNat) && alikeB rows) = true from h.2)).2⟩
theorem law_is_table_eq (d : D) (hd : PairOk d) (P : Pen) : den__law_is_table [.v d] P = .ok (.bool (tableB d)) P := by
  refine denOf_rt (sRet_ok ?_)
  have hp := law_is_pair_eq [some false, some true] (by decide) (by decide) 6 (by decide) d hd P
  rw [tableB_pair]
  cases hb : pairB [some false, some true] 6 d with
  | false =>
    rw [hb] at hp
    rw [Bool.false_and]
    exact vAnd_f (dCall_ok (aCons_ok (dVar_v rfl) (aCons_ok dC_ok (aCons_ok dC_ok aNil_ok))) rfl hp)
  | true =>
    rw [hb] at hp
    rw [Bool.true_and]
    obtain ⟨k, rows, rfl, ha⟩ := pairB_shape hb
    obtain ⟨hl, hr⟩ := hd _ _ rfl
    refine vAnd_t (dCall_ok (aCons_ok (dVar_v rfl) (aCons_ok dC_ok (aCons_ok dC_ok aNil_ok))) rfl hp) ?_
    show _ = R.ok (PyData.bool (rows.all fun r => !qB r)) P
    refine d2_ok (dComp_filter (fl fun r => !qB r) (itD_tup (d2_ok (bVar_v rfl) dC_ok rfl)) hl fun x hx => ⟨_, rfl, ?_⟩) (dLst_ok aNil_ok (Nat.le_of_ble_eq_true rfl)) ((ones_eq _ (fl_ones _ _)).trans (by rw [fl_empty]))
    obtain ⟨z, rfl⟩ := alikeB_str ha x hx
    have hq := tV_ok (d2_ok (op := dInA) (dC_ok (d := .str "?")) (bVar_v (i := 1) (env := (wipeE [.v (.tuple [.int (k : Int), .tuple rows]), .un] [1]).set 1 (.v (.str z))) (P := P) rfl) (q_in z))
    unfold fl
    cases h : qB (.str z) with
    | true => rw [h] at hq; exact .inr ⟨_, if_neg (by show ¬ ((!qB (.str z)) = true); rw [h]; decide), hq, dC_ok⟩
    | false => rw [h] at hq; exact .inl ⟨if_pos (by show (!qB (.str z)) = true; rw [h]; rfl), hq⟩
end Tk
end
section
set_option autoImplicit false
set_option maxRecDepth 100000
set_option maxHeartbeats 4000000
/-! N28: things of bounded size are looked at alike; things near a pair. -/
namespace Tk
open PySem Vl L2 TL
theorem Gx.pairOk {k n : Nat} {d : D} (h : Gx k n d) (hn : n ≤ 16777216) : PairOk d := by
  rintro m rows rfl
  have w := h.w
  have e : wt (.tuple [m, .tuple rows]) = 4 + (wt m + 2 + (4 + wts rows + 2 + 0)) := rfl
  have l := wts_len rows
  refine ⟨by omega, fun r hr z hz => ?_⟩
  subst hz
  have w2 := wt_mem hr
  have e2 : wt (.str z) = 10 * z.length + 2 := rfl
  omega
/-- both looks at a thing of bounded size -/
theorem looks_ok {k n : Nat} {d : D} (h : Gx k n d) (hn : n ≤ 16777216) (P : Pen) :
    den_is_table [.v d] P = .ok (.bool (tableB d)) P ∧ den_is_telling [.v d] P = .ok (.bool (tellB d)) P ∧ den__law_is_table [.v d] P = .ok (.bool (tableB d)) P ∧ den__law_is_pair [.v d, .v (.int 5), .v (.str "01?")] P = .ok (.bool (tellB d)) P := by
  have hp := h.pairOk hn
  refine ⟨is_table_eq d hp P, is_telling_eq d hp P, law_is_table_eq d hp P, ?_⟩
  rw [tellB_pair]
  exact law_is_pair_eq [some false, some true, none] (by decide) (by decide) 5 (by decide) d hp P
theorem wD_gx (w : List Sg) (h : w.length ≤ 100) : Gx 0 (10 * w.length + 2) (wD w) := by
  have := gx_str (wordS w) (by
    show ((w.map ch).toArray.toList).all _ = true
    rw [List.toList_toArray, List.all_eq_true]
    intro c hc
    obtain ⟨s, _, rfl⟩ := List.mem_map.mp hc
    rcases s with _ | _ | _ <;> rfl) (n := 10 * w.length + 2) (by rw [wordS_len]; exact Nat.le_refl _)
  exact this
theorem rows_gl (j : Nat) (hj : j ≤ 100) : ∀ ws : List (List Sg), (∀ w ∈ ws, w.length = j) → Gl 0 (ws.length * (10 * j + 4)) (ws.map wD)
  | [], _ => by
    rw [List.length_nil, Nat.zero_mul]; exact Gl.nil 0 0
  | w :: ws, h => by
    have hw := h w List.mem_cons_self
    have a := wD_gx w (by omega)
    have b := rows_gl j hj ws fun v hv => h v (List.mem_cons_of_mem _ hv)
    rw [hw] at a
    have c := Gl.cons' a b
    have e : (w :: ws).length * (10 * j + 4) = ws.length * (10 * j + 4) + (10 * j + 4) := by rw [List.length_cons, Nat.succ_mul]
    exact c.mono (Nat.le_refl _) (by rw [e]; omega)
end Tk
end
section
set_option autoImplicit false
set_option maxRecDepth 100000
set_option maxHeartbeats 8000000
/-! N29: the things near a pair. -/
namespace Tk
open PySem Vl L2 TL
theorem o_mulT2 {a : List D} (h : a.length * 2 ≤ 1000000) : dMul (.tuple a) (.int 2) = some (.tuple (List.replicate (Int.toNat 2) a).flatten) := guardD_of (decide_eq_true ⟨by decide, by decide, h⟩)
theorem fold_app : ∀ (l : List (Array Nat)) (acc : Array Nat), (l.foldl (· ++ ·) acc).toList = acc.toList ++ (l.map Array.toList).flatten
  | [], acc => by simp
  | x :: l, acc => by
    rw [List.foldl_cons, fold_app l, Array.toList_append, List.map_cons, List.flatten_cons, List.append_assoc]
theorem mul_gx (w : List Sg) (k : Nat) (h : 1 ≤ w.length) (h2 : w.length * k ≤ 1000) : dMul (wD w) (.int (k : Int)) = some (.str (Txt.mul (wordS w) k)) ∧ Gx 0 (10 * (w.length * k) + 2) (.str (Txt.mul (wordS w) k)) := by
  have hk : k ≤ 1000 := Nat.le_trans (Nat.le_mul_of_pos_left k h) h2
  have e : (Txt.mul (wordS w) k).cps.toList = (List.replicate k (w.map ch)).flatten := by
    have hl : ¬ (wordS w).length = 0 := by rw [wordS_len]; omega
    unfold Txt.mul
    by_cases k0 : (k : Int) < 1
    · rw [if_pos k0, show k = 0 by omega]; rfl
    · rw [if_neg k0]
      by_cases k1 : (k : Int) = 1
      · rw [if_pos (by rw [k1]; rfl), show k = 1 by omega]
        simp [wordS]
      · rw [if_neg (by simp [k1, hl])]
        show (List.foldl (· ++ ·) #[] (List.replicate (k : Int).toNat (wordS w).cps)).toList = _
        rw [fold_app, Int.toNat_natCast, List.map_replicate]
        show [] ++ (List.replicate k (w.map ch).toArray.toList).flatten = _
        rw [List.toList_toArray]; rw [List.nil_append]
  have hlen : (Txt.mul (wordS w) k).length = w.length * k := by
    have e2 : (Txt.mul (wordS w) k).length = (Txt.mul (wordS w) k).cps.toList.length := by simp [Str.length]
    rw [e2, e, List.length_flatten]
    simp [Nat.mul_comm]
  refine ⟨guardD_of (decide_eq_true ⟨by omega, by omega, by rw [wordS_len, Int.toNat_natCast]; omega⟩), gx_str _ ?_ (by rw [hlen]; exact Nat.le_refl _)⟩
  rw [e, List.all_eq_true]
  intro c hc
  obtain ⟨l, hl, hc⟩ := List.mem_flatten.mp hc
  rw [List.eq_of_mem_replicate hl] at hc
  obtain ⟨s, _, rfl⟩ := List.mem_map.mp hc
  rcases s with _ | _ | _ <;> rfl

theorem cut_last (xs : List D) (h : 1 ≤ xs.length) : cutD xs none (some (-1)) = xs.take (xs.length - 1) := by
  unfold cutD
  rw [HT.sIx_none]
  have e : HT.sIx xs.length xs.length (some (-1)) = xs.length - 1 := by
    show (if (-1 : Int) < 0 then ((-1 : Int) + (xs.length : Int)).toNat else min (-1 : Int).toNat xs.length) = _
    rw [if_pos (by decide)]; omega
  rw [e, List.drop_zero, Nat.sub_zero]
theorem at_last (ws : List (List Sg)) (w : List Sg) : dIxA (.tuple ((ws ++ [w]).map wD)) (.int (-1)) = some (wD w) := by
  have l : ((ws ++ [w]).map wD).length = ws.length + 1 := by rw [List.length_map, List.length_append]; rfl
  show (ixN ((ws ++ [w]).map wD).length (-1)).bind (fun j => ((ws ++ [w]).map wD)[j]?) = some (wD w)
  rw [l]
  have e : ixN (ws.length + 1) (-1) = some ws.length := by
    unfold ixN
    rw [if_neg (by decide), if_pos (by omega)]
    congr 1
    omega
  rw [e]
  show ((ws ++ [w]).map wD)[ws.length]? = _
  simp
theorem Gl.of_take {k n : Nat} {xs : List D} (h : Gl k n xs) (j : Nat) : Gl k n (xs.take j) := by
  have := (h.take j).1
  exact this.mono (Nat.le_refl _) (by have := wts_take xs j; have := h.w; omega)
theorem Gl.of_drop {k n : Nat} {xs : List D} (h : Gl k n xs) (j : Nat) : Gl k n (xs.drop j) := by
  have := (h.take j).2
  exact this.mono (Nat.le_refl _) (by have := wts_take xs j; have := h.w; omega)
/-- the things near a pair of a number and words -/
theorem odd_ok (n j : Nat) (hn : n ≤ 6) (hn1 : 1 ≤ n) (ws : List (List Sg)) (h1 : 2 ≤ ws.length) (h2 : ws.length ≤ 81) (hj : 1 ≤ j) (hj2 : j ≤ 3) (hw : ∀ w ∈ ws, w.length = j) (P : Pen) : ∃ xs, den__law_odd [.v (.tuple [.int n, .tuple (ws.map wD)])] P = .ok (.list xs) P ∧ xs.length ≤ 60 ∧ ∀ x ∈ xs, Gx 6 99000 x := by
  have GR : Gl 0 3000 (ws.map wD) := (rows_gl j (by omega) ws hw).mono (Nat.le_refl _) (Nat.le_trans (Nat.mul_le_mul h2 (show 10 * j + 4 ≤ 34 by omega)) (by decide))
  have lr : (ws.map wD).length = ws.length := List.length_map ..
  obtain ⟨w0, r0, e0⟩ : ∃ w0 r0, ws = w0 :: r0 := by
    cases ws with
    | nil => simp at h1
    | cons a b => exact ⟨a, b, rfl⟩
  obtain ⟨ri, wl, el⟩ : ∃ ri wl, ws = ri ++ [wl] := by
    exact ⟨ws.dropLast, ws.getLast (by rw [e0]; simp), (List.dropLast_concat_getLast (by rw [e0]; simp)).symm⟩
  have w0m := hw w0 (by rw [e0]; simp)
  have wlm := hw wl (by rw [el]; simp)
  have i0 : dIxA (.tuple (ws.map wD)) (.int 0) = some (wD w0) := by rw [e0]; exact L2.atI_nat (j := 0) rfl
  have il : dIxA (.tuple (ws.map wD)) (.int (-1)) = some (wD wl) := by rw [el]; exact at_last ri wl
  have s1 : dSl (.tuple (ws.map wD)) (some 1) none = some (.tuple ((ws.map wD).drop 1)) := congrArg (fun l => some (PyData.tuple l)) (cut_from (ws.map wD) 1)
  have s2 : dSl (.tuple (ws.map wD)) none (some 1) = some (.tuple ((ws.map wD).take 1)) := congrArg (fun l => some (PyData.tuple l)) (cut_to (ws.map wD) 1)
  have s3 : dSl (.tuple (ws.map wD)) none (some 2) = some (.tuple ((ws.map wD).take 2)) := congrArg (fun l => some (PyData.tuple l)) (cut_to (ws.map wD) 2)
  have s4 : dSl (.tuple (ws.map wD)) none (some (-1)) = some (.tuple ((ws.map wD).take (ws.length - 1))) := congrArg (fun l => some (PyData.tuple l)) (by rw [cut_last _ (by omega), lr])
  have g1 := GR.of_drop 1
  have g2 := GR.of_take 1
  have g3 := GR.of_take 2
  have g4 := GR.of_take (ws.length - 1)
  have l1 : ((ws.map wD).drop 1).length ≤ 100 := by rw [List.length_drop]; omega
  have l2 : ((ws.map wD).take 1).length ≤ 100 := by rw [List.length_take]; omega
  have l3 : ((ws.map wD).take 2).length ≤ 100 := by rw [List.length_take]; omega
  have l4 : ((ws.map wD).take (ws.length - 1)).length ≤ 100 := by rw [List.length_take]; omega
  have gl : gLen [wD w0] = some (.int (j : Int)) := by
    show (if (wordS w0).length ≤ 16777216 then _ else none) = _
    rw [wordS_len, w0m, if_pos (by omega)]
  have a0 : dAdd (wD wl) (.str "0") = some (wD (wl ++ [some false])) := add_sg wl (some false) (by omega)
  have ga0 : Gx 0 60 (wD (wl ++ [some false])) := (wD_gx _ (by rw [List.length_append, List.length_singleton]; omega)).mono (Nat.le_refl _) (by rw [List.length_append, List.length_singleton]; omega)
  have gwl : Gx 0 60 (wD wl) := (wD_gx wl (by omega)).mono (Nat.le_refl _) (by omega)
  obtain ⟨q1, q2⟩ := mul_gx [none] j (by decide) (by rw [List.length_singleton]; omega)
  have q1 : dMul (.str "?") (.int (j : Int)) = some (.str (Txt.mul "?" j)) := q1
  have q2 : Gx 0 60 (.str (Txt.mul "?" j)) := q2.mono (Nat.le_refl _) (by rw [List.length_singleton]; omega)
  have xx : dMul (.str "x") (.int (j : Int)) = some (.str (Txt.mul "x" j)) ∧ Gx 0 60 (.str (Txt.mul "x" j)) := by
    have : j = 1 ∨ j = 2 ∨ j = 3 := by omega
    rcases this with rfl | rfl | rfl
    · exact ⟨by kernel_rfl, gx_str _ (by kernel_rfl) (Nat.le_of_ble_eq_true (by kernel_rfl))⟩
    · exact ⟨by kernel_rfl, gx_str _ (by kernel_rfl) (Nat.le_of_ble_eq_true (by kernel_rfl))⟩
    · exact ⟨by kernel_rfl, gx_str _ (by kernel_rfl) (Nat.le_of_ble_eq_true (by kernel_rfl))⟩
  obtain ⟨x1, x2⟩ := xx
  obtain ⟨z1, z2⟩ := str_of_int (n : Int) (by omega) (by omega)
  have hst : gStr [.int (n : Int)] = some (.str (Str.ofString (toString (n : Int)))) := by
    show (if (n : Int).natAbs.log2 < 1920 then _ else none) = _
    rw [if_pos z2]
  have hgl : gList [.tuple (ws.map wD)] = some (.list (ws.map wD)) := by
    first | rfl | exact guardD_of (decide_eq_true (by omega)) | (show (if (ws.map wD).length ≤ 16777216 then _ else none) = _; rw [if_pos (by omega)])
  have m2 : dMul (.tuple (ws.map wD)) (.int 2) = some (.tuple (List.replicate (Int.toNat 2) (ws.map wD)).flatten) := o_mulT2 (by omega)
  have gm2 : Gl 0 6000 (List.replicate (Int.toNat 2) (ws.map wD)).flatten := (GR.rep 2).mono (Nat.le_refl _) (by decide)
  have m33 : ∀ x0 x1 x3 x4 : SV, dComp (itD (dVar 2)) (tgName 4) tsNil (d2 dMul (bVar 4) (dC (.int 33))) [4] [x0, x1, .v (.tuple (ws.map wD)), x3, x4] P = .ok (.list (ws.map fun w => PyData.str (Txt.mul (wordS w) 33))) P := fun x0 x1 x3 x4 => by
    rw [dComp_map (ds := ws.map wD) (fun d => (dMul d (.int 33)).getD .none) (itD_tup (dVar_v rfl)) (by omega) fun d hd => ?_]
    · rw [List.map_map]
      refine congrArg (fun l => R.ok (PyData.list l) P) (List.map_congr_left fun w hh => ?_)
      show (dMul (wD w) (.int 33)).getD .none = _
      have := (mul_gx w 33 (by rw [hw w hh]; omega) (by rw [hw w hh]; omega)).1
      rw [show ((33 : Nat) : Int) = 33 from rfl] at this
      rw [this]; rfl
    · obtain ⟨w, hh, rfl⟩ := List.mem_map.mp hd
      have := (mul_gx w 33 (by rw [hw w hh]; omega) (by rw [hw w hh]; omega)).1
      rw [show ((33 : Nat) : Int) = 33 from rfl] at this
      refine ⟨_, rfl, ?_⟩
      show _ = R.ok ((dMul (wD w) (.int 33)).getD .none) P
      rw [this]
      exact d2_ok (bVar_v rfl) dC_ok this
  have g33 : Gl 0 90000 (ws.map fun w => PyData.str (Txt.mul (wordS w) 33)) := by
    have : ∀ vs : List (List Sg), (∀ w ∈ vs, w.length = j) → Gl 0 (vs.length * 1000) (vs.map fun w => PyData.str (Txt.mul (wordS w) 33)) := by
      intro vs
      induction vs with
      | nil => exact fun _ => (Gl.nil 0 0).mono (by omega) (by omega)
      | cons v vs ih =>
        intro hv
        have a := (mul_gx v 33 (by rw [hv v List.mem_cons_self]; omega) (by rw [hv v List.mem_cons_self]; omega)).2
        rw [hv v List.mem_cons_self] at a
        rw [List.map_cons, List.length_cons]
        exact Gl.cons a (ih fun w hw => hv w (List.mem_cons_of_mem _ hw)) (by rw [Nat.succ_mul]; omega)
    exact (this ws hw).mono (Nat.le_refl _) (Nat.le_trans (Nat.mul_le_mul_right _ h2) (by decide))
  have t33 : gTuple [.list (ws.map fun w => PyData.str (Txt.mul (wordS w) 33))] = some (.tuple (ws.map fun w => PyData.str (Txt.mul (wordS w) 33))) := gTuple_list _ (by rw [List.length_map]; omega)
  have gn : Gx 0 20 (.int (n : Int)) := gx_nat n (by omega)
  have gn1 : Gx 0 20 (.int ((n : Int) + 1)) := by
    rw [show (n : Int) + 1 = ((n + 1 : Nat) : Int) by rw [Int.natCast_add]; rfl]
    exact gx_nat (n + 1) (by omega)
  clear e0 el
  generalize hM : (ws.map fun w => PyData.str (Txt.mul (wordS w) 33)) = mm at m33 g33 t33
  generalize hd1 : (ws.map wD).drop 1 = c1 at s1 g1 l1
  generalize ht1 : (ws.map wD).take 1 = c2 at s2 g2 l2
  generalize ht2 : (ws.map wD).take 2 = c3 at s3 g3 l3
  generalize ht3 : (ws.map wD).take (ws.length - 1) = c4 at s4 g4 l4
  generalize hr2 : (List.replicate (Int.toNat 2) (ws.map wD)).flatten = c5 at m2 gm2
  generalize hR : ws.map wD = rs at *
  generalize hA : wD (wl ++ [some false]) = da at *
  generalize hW : wD wl = dwl at *
  generalize hW0 : wD w0 = dw0 at *
  generalize hQ : PyData.str (Txt.mul "?" j) = dq at *
  generalize hX : PyData.str (Txt.mul "x" j) = dx at *
  generalize hS : PyData.str (Str.ofString (toString (n : Int))) = ds at *
  have rc : dAdd (.tuple rs) (.tuple c2) = some (.tuple (rs ++ c2)) := o_addT (by omega)
  apply Exists.intro
  refine ⟨?_, ?_, ?_⟩
  · apply denOf_rt
    wtm_at "vl st"
    wtm_at "vl st"
    wtm_at "vl st"
    wtm_at "vl st"
    apply sSeq_nx
    · apply sApp_ok
      · exact rfl
      · wtm_at "vl evc"
      · exact Nat.le_of_ble_eq_true rfl
    apply sRet_ok
    apply d2_ok
    · exact bVar_o rfl
    · apply dLst_ok
      · apply aCons_ok
        · apply dTup_ok
          · apply aCons_ok
            · exact dVar_v rfl
            · apply aCons_ok
              · exact dB_ok (aCons_ok (m33 _ _ _ _) aNil_ok) t33
              · exact aNil_ok
          · exact Nat.le_of_ble_eq_true rfl
        · wtm_at "vl evc"
      · exact Nat.le_of_ble_eq_true rfl
    · wtm_at "vl evo"
  · exact Nat.le_of_ble_eq_true rfl
  · wtm_at "vl gall"
end Tk
end
section
set_option autoImplicit false
set_option maxRecDepth 100000
set_option maxHeartbeats 8000000
/-! N30: pairs of words may be bent; the things' turn. -/
namespace Tk
open PySem Vl L2 TL
theorem bent_word : ∀ w : List Sg, 1 ≤ w.length → w.length ≤ 3 → wordS w ∈ bentS
  | [], h, _ => by simp at h
  | [a], _, _ => by rcases a with _ | _ | _ <;> exact bent_mem (by kernel_rfl)
  | [a, b], _, _ => by rcases a with _ | _ | _ <;> rcases b with _ | _ | _ <;> exact bent_mem (by kernel_rfl)
  | [a, b, c], _, _ => by rcases a with _ | _ | _ <;> rcases b with _ | _ | _ <;> rcases c with _ | _ | _ <;> exact bent_mem (by kernel_rfl)
  | _ :: _ :: _ :: _ :: _, _, h => by simp at h
theorem nvs_words : ∀ ws : List (List Sg), (∀ w ∈ ws, 1 ≤ w.length ∧ w.length ≤ 3) → Nvs (ws.map wD)
  | [], _ => trivial
  | w :: ws, h => ⟨bent_word w (h w List.mem_cons_self).1 (h w List.mem_cons_self).2, nvs_words ws fun v hv => h v (List.mem_cons_of_mem _ hv)⟩
theorem pair_gx (n j : Nat) (hn : n ≤ 6) (ws : List (List Sg)) (h2 : ws.length ≤ 81) (hj : 1 ≤ j) (hj2 : j ≤ 3) (hw : ∀ w ∈ ws, w.length = j) : Gx 2 3100 (.tuple [.int n, .tuple (ws.map wD)]) ∧ Nv (.tuple [.int n, .tuple (ws.map wD)]) := by
  have GR : Gl 0 3000 (ws.map wD) := (rows_gl j (by omega) ws hw).mono (Nat.le_refl _) (Nat.le_trans (Nat.mul_le_mul h2 (show 10 * j + 4 ≤ 34 by omega)) (by decide))
  have gn : Gx 0 20 (.int (n : Int)) := gx_nat n (by omega)
  refine ⟨(Gl.tup' (Gl.cons' gn (Gl.cons' GR.tup' Gl.nil'))).mono (Nat.le_of_ble_eq_true rfl) (Nat.le_of_ble_eq_true rfl), ⟨by omega, by omega⟩, ?_, trivial⟩
  exact nvs_words ws fun w hh => by rw [hw w hh]; omega
end Tk
end
section
set_option autoImplicit false
set_option maxRecDepth 100000
set_option maxHeartbeats 8000000
/-! N31: loops; the cells; the turn's parts. -/
namespace Tk
open PySem Vl L2 TL
/-! ### the cells -/
theorem sSetAt_ok {env : Vl.Env} {P P1 P2 : Pen} {i : Nat} {fa fi : Vl.Env → M D} {d : D} {ds es : List D} {k : Int} (h : fa env P = .ok d P1) (he : env[i]? = some (.own ds)) (h2 : fi env P1 = .ok (.int k) P2) (h3 : dSetAt ds k d = some es) : sSetAt i fa fi env P = .ok (.nx (env.set i (.own es))) P2 := by
  unfold sSetAt
  rw [bnd_ok h, he]
  simp only [bnd_ok h2, h3]
  rfl
theorem cells_loop (x0 : SV) (P : Pen) : ∀ (ns : List Int) (k : Nat) (cs : List Int) (x2 x3 : SV), cs.length = 12 →
    ∃ (cs' : List Int) (y2 y3 : SV), loopD (tgTup 2 (tgCons (tgName 2) (tgCons (tgName 3) tgNil))) (sSetAt 1 (d2 dAdd (d2 dIxA (bVar 1) (d2 dMod (dB gInt (aCons (bVar 2) aNil)) (dC (.int 12)))) (bVar 3)) (d2 dMod (dB gInt (aCons (bVar 2) aNil)) (dC (.int 12)))) (enumD (k : Int) (ns.map PyData.int)) [x0, .own (cs.map PyData.int), x2, x3] P = .ok (.nx [x0, .own (cs'.map PyData.int), y2, y3]) P
  | [], k, cs, x2, x3, _ => ⟨cs, x2, x3, rfl⟩
  | c :: ns, k, cs, x2, x3, hl => by
    have m0 : 0 ≤ (k : Int) % 12 := Int.emod_nonneg _ (by decide)
    have m1 : (k : Int) % 12 < 12 := Int.emod_lt_of_pos _ (by decide)
    obtain ⟨j, hj⟩ := Int.eq_ofNat_of_zero_le m0
    have hj2 : j < cs.length := by omega
    have hix : dIxA (.list (cs.map PyData.int)) (.int ((k : Int) % 12)) = some (.int cs[j]) := by
      rw [hj]
      refine L2.atI_nat (j := j) ?_
      rw [List.getElem?_map, List.getElem?_eq_getElem hj2]; rfl
    have hset : dSetAt (cs.map PyData.int) ((k : Int) % 12) (.int (cs[j] + c)) = some ((cs.set j (cs[j] + c)).map PyData.int) := by
      unfold dSetAt
      rw [hj]
      have e : ixN (cs.map PyData.int).length (j : Int) = some j := by
        rw [List.length_map]
        unfold ixN
        rw [if_pos (Int.natCast_nonneg j), if_pos (by omega), Int.toNat_natCast]
      rw [e, List.map_set]; rfl
    have mm : ∀ e : Vl.Env, e[2]? = some (.v (.int (k : Int))) → d2 dMod (dB gInt (aCons (bVar 2) aNil)) (dC (.int 12)) e P = .ok (.int ((k : Int) % 12)) P := fun e he => d2_ok (dB_ok (aCons_ok (bVar_v he) aNil_ok) rfl) dC_ok (o_mod (by decide))
    have hs := sSetAt_ok (i := 1) (env := [x0, .own (cs.map PyData.int), .v (.int (k : Int)), .v (.int c)]) (P := P) (d2_ok (d2_ok (bVar_o (i := 1) rfl) (mm _ rfl) hix) (bVar_v (i := 3) rfl) (show dAdd (.int cs[j]) (.int c) = some (.int (cs[j] + c)) from rfl)) rfl (mm _ rfl) hset
    obtain ⟨cs', y2, y3, q⟩ := cells_loop x0 P ns (k + 1) (cs.set j (cs[j] + c)) (.v (.int (k : Int))) (.v (.int c)) (by rw [List.length_set]; exact hl)
    refine ⟨cs', y2, y3, ?_⟩
    rw [List.map_cons]
    unfold enumD loopD
    show bnd (sSetAt 1 _ _ [x0, .own (cs.map PyData.int), .v (.int (k : Int)), .v (.int c)]) _ P = _
    rw [bnd_ok hs]
    exact q
theorem cut_map (ns : List Int) (lo hi : Option Int) : cutD (ns.map PyData.int) lo hi = ((ns.drop (HT.sIx ns.length 0 lo)).take (HT.sIx ns.length ns.length hi - HT.sIx ns.length 0 lo)).map PyData.int := by
  unfold cutD
  rw [List.length_map, ← List.map_drop, ← List.map_take]
theorem open_ok (ns : List Int) (P : Pen) : ∃ cs : List Int, den__law_open [.scr ns] P = .ok (.list [.list (cs.map PyData.int), .int 0, .int 0]) P := by
  have scr : ∀ (l u : Option Int) (fl fu : Vl.Env → M (Option Int)) (e : Vl.Env), e[0]? = some (.scr ns) → fl e P = .ok l P → fu e P = .ok u P → dScr 0 fl fu e P = .ok (.list (cutD (ns.map PyData.int) l u)) P := by
    intro l u fl fu e he h1 h2
    unfold dScr
    rw [he]
    simp only [bnd_ok h1, bnd_ok h2]
    rfl
  have c12 : cutD (ns.map PyData.int) none (some 12) = (ns.take 12).map PyData.int := by
    rw [show (some (12 : Int)) = some ((12 : Nat) : Int) from rfl, cut_to, List.map_take]
  have last : ∀ (cs : List Int) (x2 x3 : SV), sShare 1 (sRet (dLst (aCons (dVar 1) (aCons (dC (.int 0)) (aCons (dC (.int 0)) aNil))))) [.scr ns, .own (cs.map PyData.int), x2, x3] P = .ok (.rt (.list [.list (cs.map PyData.int), .int 0, .int 0])) P := fun cs x2 x3 =>
    sShare_ok rfl (sRet_ok (dLst_ok (aCons_ok (dVar_v rfl) (aCons_ok dC_ok (aCons_ok dC_ok aNil_ok))) (Nat.le_of_ble_eq_true rfl)))
  have first : sOwn 1 (dB gList (aCons (dScr 0 dNoPart (dPart (dC (.int 12)))) aNil)) [.scr ns, .un, .un, .un] P = .ok (.nx [.scr ns, .own ((ns.take 12).map PyData.int), .un, .un]) P :=
    sOwn_ok (dB_ok (aCons_ok (scr none (some 12) _ _ _ rfl dNoPart_ok (dPart_ok dC_ok)) aNil_ok) (by rw [c12]; rfl))
  rcases Nat.lt_or_ge ns.length 12 with h | h
  · refine ⟨ns.take 12, denOf_rt (sSeq_nx first (sSeq_nx (sFor_ok (itE1_ok (scr (some 12) (some 63) _ _ _ rfl (dPart_ok dC_ok) (dPart_ok dC_ok)) rfl) ?_) (last (ns.take 12) .un .un)))⟩
    · rw [cut_map, show (some (12 : Int)) = some ((12 : Nat) : Int) from rfl, HT.sIx_nat, Nat.min_eq_right (by omega), List.drop_of_length_le (Nat.le_refl _), List.take_nil]
      rfl
  · obtain ⟨cs', y2, y3, q⟩ := cells_loop (.scr ns) P ((ns.drop (HT.sIx ns.length 0 (some 12))).take (HT.sIx ns.length ns.length (some 63) - HT.sIx ns.length 0 (some 12))) 0 (ns.take 12) .un .un (by rw [List.length_take]; omega)
    refine ⟨cs', denOf_rt (sSeq_nx first (sSeq_nx (sFor_ok (itE1_ok (scr (some 12) (some 63) _ _ _ rfl (dPart_ok dC_ok) (dPart_ok dC_ok)) rfl) ?_) (last cs' y2 y3)))⟩
    rw [cut_map]
    exact q
theorem loop_nx {tg : D → Vl.Env → Option Vl.Env} {body : Vl.Env → M Fl} {d : D} {ds : List D} {env e1 e : Vl.Env} {P P1 : Pen} (h : tg d env = some e1) (hb : body e1 P = .ok (.nx e) P1) : loopD tg body (d :: ds) env P = loopD tg body ds e P1 := by
  rw [loopD, h]
  show bnd (body e1) _ P = _
  rw [bnd_ok hb]
theorem loop_ex {tg : D → Vl.Env → Option Vl.Env} {body : Vl.Env → M Fl} {d : D} {ds : List D} {env e1 : Vl.Env} {P P1 : Pen} {c : Str} (h : tg d env = some e1) (hb : body e1 P = .ex c P1) : loopD tg body (d :: ds) env P = .ex c P1 := by
  rw [loopD, h]
  show bnd (body e1) _ P = _
  rw [bnd_ex hb]
theorem loop_rt {tg : D → Vl.Env → Option Vl.Env} {body : Vl.Env → M Fl} {d v : D} {ds : List D} {env e1 : Vl.Env} {P P1 : Pen} (h : tg d env = some e1) (hb : body e1 P = .ok (.rt v) P1) : loopD tg body (d :: ds) env P = .ok (.rt v) P1 := by
  rw [loopD, h]
  show bnd (body e1) _ P = _
  rw [bnd_ok hb]
  rfl
theorem loop_keep {tg : D → Vl.Env → Option Vl.Env} {body : Vl.Env → M Fl} {P : Pen} (I : Vl.Env → Prop) : ∀ (ds : List D) (env : Vl.Env), I env → (∀ d ∈ ds, ∀ env, I env → ∃ e1 e2, tg d env = some e1 ∧ body e1 P = .ok (.nx e2) P ∧ I e2) → ∃ e, loopD tg body ds env P = .ok (.nx e) P ∧ I e
  | [], env, h, _ => ⟨env, rfl, h⟩
  | d :: ds, env, h, hs => by
    obtain ⟨e1, e2, h1, h2, h3⟩ := hs d List.mem_cons_self env h
    obtain ⟨e, q1, q2⟩ := loop_keep I ds e2 h3 fun d' hd' => hs d' (List.mem_cons_of_mem _ hd')
    exact ⟨e, (loop_nx h1 h2).trans q1, q2⟩
theorem loop_draw {tg : D → Vl.Env → Option Vl.Env} {body : Vl.Env → M Fl} (I : Nat → Vl.Env → Pen → Prop) : ∀ (ds : List D) (env : Vl.Env) (P : Pen), I ds.length env P → (∀ d ∈ ds, ∀ k env P, I (k + 1) env P → ∃ e1 e2 P', tg d env = some e1 ∧ body e1 P = .ok (.nx e2) P' ∧ I k e2 P') → ∃ e P', loopD tg body ds env P = .ok (.nx e) P' ∧ I 0 e P'
  | [], env, P, h, _ => ⟨env, P, rfl, h⟩
  | d :: ds, env, P, h, hs => by
    obtain ⟨e1, e2, P1, h1, h2, h3⟩ := hs d List.mem_cons_self ds.length env P h
    obtain ⟨e, P2, q1, q2⟩ := loop_draw I ds e2 P1 h3 fun d' hd' => hs d' (List.mem_cons_of_mem _ hd')
    exact ⟨e, P2, (loop_nx h1 h2).trans q1, q2⟩
theorem strOk_word (w : List Sg) : (wD w).canLay0 = true := by
  show ((w.map ch).toArray.all (· < 0x110000)) = true
  rw [Array.all_eq_true_iff_forall_mem]
  intro c hc
  obtain ⟨s, _, rfl⟩ := List.mem_map.mp (by simpa using hc)
  rcases s with _ | _ | _ <;> decide
theorem lay_words : ∀ ws : List (List Sg), PyData.canLayAll0 (ws.map wD) = true ∧ PyData.depthAll (ws.map wD) ≤ 1
  | [] => ⟨rfl, by simp [PyData.depthAll]⟩
  | w :: ws => by
    obtain ⟨h1, h2⟩ := lay_words ws
    refine ⟨?_, ?_⟩
    · show ((wD w).canLay0 && PyData.canLayAll0 (ws.map wD)) = true
      rw [strOk_word, h1]; rfl
    · rw [List.map_cons]
      have : (wD w).depth = 0 := by show PyData.depth (.str _) = 0; simp [PyData.depth]
      simp only [PyData.depthAll]
      omega

theorem neS_same (z : Str) : dNeA (.str z) (.str z) = some (.bool false) := by rw [o_neS, decide_eq_true rfl]; rfl
theorem word_of {tb : List (Addr × Str)} {f : Vl.Env → M D} {env : Vl.Env} {P P' : Pen} {c z : Str} (hP : P.tb = tb) (h : f env P = .ex c P') (hz : (cw__law_word.find? fun p => isaN c p.1) = some (c, z)) : dWord tb isaN cw__law_word "none" f env P = .ok (.str z) P' := by
  unfold dWord
  rw [if_pos hP, h]
  simp only [hz]
theorem isa_net : (cw__law_word.find? fun p => isaN ("NoNet" : Str) p.1) = some (("NoNet" : Str), ("net" : Str)) := by kernel_rfl
theorem isa_great : (cw__law_word.find? fun p => isaN ("TooGreat" : Str) p.1) = some (("TooGreat" : Str), ("great" : Str)) := by kernel_rfl
theorem w_net {tb : List (Addr × Str)} {f : Vl.Env → M D} {env : Vl.Env} {P : Pen} (hP : P.tb = tb) (h : f env P = .ex "NoNet" P) : dWord tb isaN cw__law_word "none" f env P = .ok (.str "net") P := word_of hP h isa_net
theorem w_great {tb : List (Addr × Str)} {f : Vl.Env → M D} {env : Vl.Env} {P : Pen} (hP : P.tb = tb) (h : f env P = .ex "TooGreat" P) : dWord tb isaN cw__law_word "none" f env P = .ok (.str "great") P := word_of hP h isa_great
theorem call1_ex {den : List SV → M D} {env : Vl.Env} {f : Vl.Env → M D} {d : D} {c : Str} {P : Pen} (h : f env P = .ok d P) (h2 : den [.v d] P = .ex c P) : dCall 1 den (aCons f aNil) env P = .ex c P := dCall_ex (aCons_ok h aNil_ok) rfl h2
theorem call1 {den : List SV → M D} {env : Vl.Env} {f : Vl.Env → M D} {d r : D} {P : Pen} (h : f env P = .ok d P) (h2 : den [.v d] P = .ok r P) : dCall 1 den (aCons f aNil) env P = .ok r P := dCall_ok (aCons_ok h aNil_ok) rfl h2
theorem lst2 {env : Vl.Env} {f g : Vl.Env → M D} {d e : D} {P : Pen} (h : f env P = .ok d P) (h1 : g env P = .ok e P) : dLst (aCons f (aCons g aNil)) env P = .ok (.list [d, e]) P := dLst_ok (aCons_ok h (aCons_ok h1 aNil_ok)) (Nat.le_of_ble_eq_true rfl)
theorem tup2 {env : Vl.Env} {f g : Vl.Env → M D} {d e : D} {P : Pen} (h : f env P = .ok d P) (h1 : g env P = .ok e P) : dTup (aCons f (aCons g aNil)) env P = .ok (.tuple [d, e]) P := dTup_ok (aCons_ok h (aCons_ok h1 aNil_ok)) (Nat.le_of_ble_eq_true rfl)
theorem shaped_pair (n : Int) (ws : List (List Sg)) : (PyData.tuple [.int n, .tuple (ws.map wD)]).canLay0 = true ∧ SeqAt.shaped (.tuple [.int n, .tuple (ws.map wD)]) = true ∧ SeqAt.shaped (.tuple (ws.map wD)) = true := by
  obtain ⟨h1, h2⟩ := lay_words ws
  have c : (PyData.tuple [.int n, .tuple (ws.map wD)]).canLay0 = true := by
    show (true && (PyData.canLayAll0 (ws.map wD) && true)) = true
    rw [h1]; rfl
  refine ⟨c, ?_, ?_⟩
  · unfold SeqAt.shaped
    rw [c, Bool.true_and]
    refine decide_eq_true ?_
    simp only [PyData.depthAll, PyData.depth]
    omega
  · unfold SeqAt.shaped
    show (PyData.canLayAll0 (ws.map wD) && _) = true
    rw [h1, Bool.true_and]
    refine decide_eq_true ?_
    simp only [PyData.depth]
    omega
theorem ne_shaped {d : D} (h : SeqAt.shaped d = true) : dNe d d = some (.bool false) := by
  show guardD (SeqAt.shaped d && SeqAt.shaped d) (.bool (!PyData.eqv d d)) = _
  rw [h, Bool.and_self, guardD_of rfl, SeqAt.eqv_refl d (SeqAt.canLay_of_shaped h)]; rfl
theorem eq_shaped {d : D} (h : SeqAt.shaped d = true) : dEq d d = some (.bool true) := by
  show guardD (SeqAt.shaped d && SeqAt.shaped d) (.bool (PyData.eqv d d)) = _
  rw [h, Bool.and_self, guardD_of rfl, SeqAt.eqv_refl d (SeqAt.canLay_of_shaped h)]
def unCh (c : Nat) : Sg := if c = 49 then some true else if c = 48 then some false else none
def unD : D → List Sg
  | .str z => z.cps.toList.map unCh
  | _ => []
theorem unD_wD (w : List Sg) : unD (wD w) = w := by
  show ((w.map ch).toArray.toList).map unCh = w
  rw [List.toList_toArray, List.map_map]
  have : w.map (unCh ∘ ch) = w.map id := List.map_congr_left fun s _ => by rcases s with _ | _ | _ <;> rfl
  rw [this, List.map_id]
def rowF (t : Net) (d : D) : D := wD (runS t (unD d))
/-- what the law lists of a net -/
theorem runs_ok (t : Net) (h : t.Ok) (bs : List Sg) (hb : bs.length ≤ 3) (hn : t.n ≤ 6) (i : Nat) (hi : i ≠ 6) (nE bE : Vl.Env → M D) (e : Vl.Env) (P : Pen) (h6 : 6 < e.length) (hi2 : e[i]? = some (.v t.d)) (hnE : nE e P = .ok (.int (t.n : Int)) P) (hbE : bE e P = .ok (wD bs) P) :
    dB gTuple (aCons (dComp (itD (dCall 2 den__law_all (aCons nE (aCons bE aNil)))) (tgName 6) tsNil (dCall 2 den__law_run (aCons (dVar i) (aCons (dVar 6) aNil))) [6]) aNil) e P = .ok (.tuple (((allS bs t.n).map (runS t)).map wD)) P := by
  have hl : (allS bs t.n).length ≤ 1000 := by
    rw [allS_len]
    exact Nat.le_trans (Nat.le_trans (Nat.pow_le_pow_left hb _) (Nat.pow_le_pow_right (by decide) hn)) (by decide)
  have hc : dComp (itD (dCall 2 den__law_all (aCons nE (aCons bE aNil)))) (tgName 6) tsNil (dCall 2 den__law_run (aCons (dVar i) (aCons (dVar 6) aNil))) [6] e P = .ok (.list (((allS bs t.n).map (runS t)).map wD)) P := by
    rw [dComp_map (ds := (allS bs t.n).map wD) (rowF t) (itD_list (dCall_ok (n := 2) (aCons_ok hnE (aCons_ok hbE aNil_ok)) rfl (law_all_ok bs hb t.n (by omega) P))) (by rw [List.length_map]; omega) fun d hd => ?_]
    · rw [List.map_map, List.map_map]
      refine congrArg (fun l => R.ok (PyData.list l) P) (List.map_congr_left fun w _ => ?_)
      show rowF t (wD w) = wD (runS t w)
      unfold rowF
      rw [unD_wD]
    · obtain ⟨w, hw, rfl⟩ := List.mem_map.mp hd
      refine ⟨(e.set 6 .un).set 6 (.v (wD w)), rfl, ?_⟩
      have l6 : 6 < (e.set 6 .un).length := by rw [List.length_set]; exact h6
      have z6 : ((e.set 6 .un).set 6 (.v (wD w)))[6]? = some (.v (wD w)) := by rw [List.getElem?_set_self l6]
      have zi : ((e.set 6 .un).set 6 (.v (wD w)))[i]? = some (.v t.d) := by rw [List.getElem?_set_ne (Ne.symm hi), List.getElem?_set_ne (Ne.symm hi)]; exact hi2
      have := row_map t h bs t.n rfl P w hw
      unfold rowF
      rw [unD_wD]
      exact dCall_ok (aCons_ok (dVar_v zi) (aCons_ok (dVar_v z6) aNil_ok)) rfl this
  exact dB_ok (aCons_ok hc aNil_ok) (gTuple_list _ (by rw [List.length_map, List.length_map]; omega))
end Tk
end
section
set_option autoImplicit false
set_option maxRecDepth 100000
set_option maxHeartbeats 8000000
/-! N32: the turn. -/
namespace Tk
open PySem Vl L2 TL
section
variable {tb : List (Addr × Str)} {m : Nat} {P : Pen}
abbrev turnB : Vl.Env → M Fl := (sSeq (sSet 3 (d2 dAdd (dC (.int 1)) (dPen 1 2 den__law_take (aCons (dC (.int 4)) aNil)))) (sSeq (sSet 4 (dPen 1 4 den__law_any_net (aCons (dVar 3) (aCons (dC (.int 7)) (aCons (d2 dAdd (dC (.int 1)) (dPen 1 2 den__law_take (aCons (dC (.int 3)) aNil))) aNil))))) (sSeq (sSet 5 (dTup (aCons (dVar 3) (aCons (dB gTuple (aCons (dComp (itD (dCall 2 den__law_all (aCons (dVar 3) (aCons (dC (.str "01")) aNil)))) (tgName 6) tsNil (dCall 2 den__law_run (aCons (dVar 4) (aCons (dVar 6) aNil))) [6]) aNil)) aNil)))) (sSeq (sSet 7 (dTup (aCons (dVar 3) (aCons (dB gTuple (aCons (dComp (itD (dCall 2 den__law_all (aCons (dVar 3) (aCons (dC (.str "01?")) aNil)))) (tgName 6) tsNil (dCall 2 den__law_run (aCons (dVar 4) (aCons (dVar 6) aNil))) [6]) aNil)) aNil)))) (sSeq (sIf (tV (d2 dNeA (dB gRepr (aCons (dLst (aCons (dCall 1 den_table_of (aCons (dVar 4) aNil)) (aCons (dCall 1 den_telling_of (aCons (dVar 4) aNil)) aNil))) aNil)) (dB gRepr (aCons (dLst (aCons (dVar 5) (aCons (dVar 7) aNil))) aNil)))) (sRet (dC (.bool false))) sNil) (sSeq (sSet 8 (d2 dCat (d2 dAdd (dCall 1 den__law_odd (aCons (dVar 5) aNil)) (dCall 1 den__law_odd (aCons (dVar 7) aNil))) (dLst (aCons (dVar 5) (aCons (dVar 7) aNil))))) (sSeq (sFor (itR1 (aCons (dC (.int 4)) aNil)) (tgName 9) (sSet 8 (d2 dCat (bVar 8) (dLst (aCons (dPen 1 2 (den__law_bent 8) (aCons (dVar 5) aNil)) (aCons (dPen 1 2 (den__law_bent 8) (aCons (dVar 7) aNil)) aNil)))))) (sFor (itD (dVar 8)) (tgName 10) (sSeq (sPar2 11 12 (aCons (dLst (aCons (dCall 1 den__law_is_table (aCons (dVar 10) aNil)) (aCons (dCall 3 den__law_is_pair (aCons (dVar 10) (aCons (dC (.int 5)) (aCons (dC (.str "01?")) aNil)))) aNil))) (aCons (dB gRepr (aCons (bVar 10) aNil)) aNil))) (sIf (mOr (tV (d2 dNeA (dB gRepr (aCons (dLst (aCons (dCall 1 den_is_table (aCons (dVar 10) aNil)) (aCons (dCall 1 den_is_telling (aCons (dVar 10) aNil)) aNil))) aNil)) (dB gRepr (aCons (bVar 11) aNil)))) (tV (d2 dNeA (dB gRepr (aCons (bVar 10) aNil)) (bVar 12)))) (sRet (dC (.bool false))) sNil))))))))))
abbrev bendB : Vl.Env → M Fl := (sSet 8 (d2 dCat (bVar 8) (dLst (aCons (dPen 1 2 (den__law_bent 8) (aCons (dVar 5) aNil)) (aCons (dPen 1 2 (den__law_bent 8) (aCons (dVar 7) aNil)) aNil)))))
abbrev lookB : Vl.Env → M Fl := (sSeq (sPar2 11 12 (aCons (dLst (aCons (dCall 1 den__law_is_table (aCons (dVar 10) aNil)) (aCons (dCall 3 den__law_is_pair (aCons (dVar 10) (aCons (dC (.int 5)) (aCons (dC (.str "01?")) aNil)))) aNil))) (aCons (dB gRepr (aCons (bVar 10) aNil)) aNil))) (sIf (mOr (tV (d2 dNeA (dB gRepr (aCons (dLst (aCons (dCall 1 den_is_table (aCons (dVar 10) aNil)) (aCons (dCall 1 den_is_telling (aCons (dVar 10) aNil)) aNil))) aNil)) (dB gRepr (aCons (bVar 11) aNil)))) (tV (d2 dNeA (dB gRepr (aCons (bVar 10) aNil)) (bVar 12)))) (sRet (dC (.bool false))) sNil))
theorem repr_bools (a b : Bool) : ∃ z, gRepr [.list [.bool a, .bool b]] = some (.str z) := by cases a <;> cases b <;> exact ⟨_, rfl⟩
def Lk (x0 x2 x3 x4 x5 x6 x7 x8 x9 x13 x14 x15 x16 x17 : SV) (e : Vl.Env) : Prop := ∃ x10 x11 x12, e = [x0, .pen, x2, x3, x4, x5, x6, x7, x8, x9, x10, x11, x12, x13, x14, x15, x16, x17]
theorem look_loop (x0 x2 x3 x4 x5 x6 x7 x8 x9 x13 x14 x15 x16 x17 : SV) (ds : List D) (hd : ∀ d ∈ ds, Gx 6 99000 d) (env : Vl.Env) (h : Lk x0 x2 x3 x4 x5 x6 x7 x8 x9 x13 x14 x15 x16 x17 env) : ∃ e, loopD (tgName 10) lookB ds env P = .ok (.nx e) P ∧ Lk x0 x2 x3 x4 x5 x6 x7 x8 x9 x13 x14 x15 x16 x17 e := by
  refine loop_keep _ ds env h fun d hdm env ⟨x10, x11, x12, e⟩ => ?_
  subst e
  have gx := hd d hdm
  obtain ⟨l1, l2, l3, l4⟩ := looks_ok gx (by decide) P
  have hr := gx.repr (by decide) (by decide)
  obtain ⟨z, rz⟩ := repr_bools (tableB d) (tellB d)
  have hb : ∃ e2, lookB [x0, .pen, x2, x3, x4, x5, x6, x7, x8, x9, .v d, x11, x12, x13, x14, x15, x16, x17] P = .ok (.nx e2) P ∧ Lk x0 x2 x3 x4 x5 x6 x7 x8 x9 x13 x14 x15 x16 x17 e2 := by
    apply Exists.intro
    constructor
    · apply sSeq_nx
      · exact sPar2_ok (aCons_ok (lst2 (call1 (dVar_v rfl) l3) (dCall_ok (aCons_ok (dVar_v rfl) (aCons_ok dC_ok (aCons_ok dC_ok aNil_ok))) rfl l4)) (aCons_ok (dB_ok (aCons_ok (bVar_v rfl) aNil_ok) hr) aNil_ok))
      exact sIf_f (P1 := P) (mOr_f (tV_ok (d2_ok (dB_ok (aCons_ok (lst2 (call1 (dVar_v rfl) l1) (call1 (dVar_v rfl) l2)) aNil_ok) rz) (dB_ok (aCons_ok (bVar_v rfl) aNil_ok) rz) (neS_same z))) (tV_ok (d2_ok (dB_ok (aCons_ok (bVar_v rfl) aNil_ok) hr) (bVar_v rfl) (neS_same _)))) sNil_ok
    · exact ⟨_, _, _, rfl⟩
  obtain ⟨e2, ha, hs⟩ := hb
  exact ⟨_, e2, rfl, ha, hs⟩
/-- words of one length, in pairs -/
structure Pr (n : Nat) (d : D) : Prop where
  gx : Gx 2 3100 d
  nv : Nv d
def Bd (x0 x2 x3 x4 x6 x10 x11 x12 x13 x14 x15 x16 x17 : SV) (ta te : D) (k : Nat) (e : Vl.Env) : Prop := ∃ x9 xs, e = [x0, .pen, x2, x3, x4, .v ta, x6, .v te, .v (.list xs), x9, x10, x11, x12, x13, x14, x15, x16, x17] ∧ (∀ x ∈ xs, Gx 6 99000 x) ∧ xs.length + 2 * k ≤ 200
theorem bend_loop (x0 x2 x3 x4 x6 x10 x11 x12 x13 x14 x15 x16 x17 : SV) (ta te : D) (h1 : Pr 0 ta) (h2 : Pr 0 te) (ds : List D) (env : Vl.Env) (h : Bd x0 x2 x3 x4 x6 x10 x11 x12 x13 x14 x15 x16 x17 ta te ds.length env) (g : Gd tb (m + 64 * ds.length) P) : ∃ e P', loopD (tgName 9) bendB ds env P = .ok (.nx e) P' ∧ Bd x0 x2 x3 x4 x6 x10 x11 x12 x13 x14 x15 x16 x17 ta te 0 e ∧ Gd tb m P' := by
  obtain ⟨e, P', q, h3, g3⟩ := loop_draw (tg := tgName 9) (body := bendB) (fun k e P => Bd x0 x2 x3 x4 x6 x10 x11 x12 x13 x14 x15 x16 x17 ta te k e ∧ Gd tb (m + 64 * k) P) ds env P ⟨h, g⟩ fun d _ k env P ⟨⟨x9, xs, e, hx, hl⟩, g⟩ => by
    subst e
    obtain ⟨y, P1, q1, gy, g1⟩ := bent_ok (tb := tb) 8 2 3100 ta (m + 64 * k + 32) P (by decide) h1.nv h1.gx (by decide) (g.mono (by omega))
    obtain ⟨z, P2, q2, gz, g2⟩ := bent_ok (tb := tb) 8 2 3100 te (m + 64 * k) P1 (by decide) h2.nv h2.gx (by decide) (g1.mono (by omega))
    refine ⟨_, [x0, .pen, x2, x3, x4, .v ta, x6, .v te, .v (.list (xs ++ [y, z])), .v d, x10, x11, x12, x13, x14, x15, x16, x17], P2, rfl, ?_, ⟨_, _, rfl, all_app hx (all_cons (gy.mono (by omega) (by omega)) (all_cons (gz.mono (by omega) (by omega)) all_nil)), by rw [List.length_append]; show xs.length + 2 + 2 * k ≤ 200; omega⟩, g2⟩
    exact sSet_ok (d2_ok (bVar_v rfl) (dLst_ok (aCons_ok (dPen_ok1 rfl (dVar_v rfl) q1) (aCons_ok (dPen_ok1 rfl (dVar_v rfl) q2) aNil_ok)) (Nat.le_of_ble_eq_true rfl)) (show dCat (.list xs) (.list [y, z]) = some (.list (xs ++ [y, z])) from guardD_of (decide_eq_true (by show xs.length + 2 ≤ _; omega))))
  exact ⟨e, P', q, h3, g3.mono (by omega)⟩
theorem turnB_ok (x0 x2 x3 x4 x5 x6 x7 x8 x9 x10 x11 x12 x13 x14 x15 x16 x17 : SV) (g : Gd tb (m + 400) P) :
    ∃ (y3 y4 y5 y6 y7 y8 y9 y10 y11 y12 : SV) (P' : Pen), turnB [x0, .pen, x2, x3, x4, x5, x6, x7, x8, x9, x10, x11, x12, x13, x14, x15, x16, x17] P = .ok (.nx [x0, .pen, x2, y3, y4, y5, y6, y7, y8, y9, y10, y11, y12, x13, x14, x15, x16, x17]) P' ∧ Gd tb m P' := by
  obtain ⟨v, P1, q1, v0, v1, g1⟩ := take_ok (tb := tb) (n := m + 399) g 4 (by decide)
  obtain ⟨w, P2, q2, w0, w1, g2⟩ := take_ok (tb := tb) (n := m + 398) g1 3 (by decide)
  obtain ⟨i, rfl⟩ := Int.eq_ofNat_of_zero_le v0
  obtain ⟨j, rfl⟩ := Int.eq_ofNat_of_zero_le w0
  obtain ⟨t, P3, q3, ht, tn, tg, to, g3⟩ := any_net_ok (tb := tb) (n := m + 300) (P := P2) (1 + i) 7 (1 + j) (by omega) (by omega) (by omega) (g2.mono (by omega))
  have hn : t.n ≤ 4 := by omega
  have e1 : (1 : Int) + (i : Int) = ((1 + i : Nat) : Int) := by rw [Int.natCast_add]; rfl
  have e2 : (1 : Int) + (j : Int) = ((1 + j : Nat) : Int) := by rw [Int.natCast_add]; rfl
  have en : ((1 + i : Nat) : Int) = (t.n : Int) := by rw [tn]
  have n1 := ht.n1
  have o3 : 1 ≤ t.outs.length ∧ t.outs.length ≤ 3 := by omega
  have rlen : ∀ w : List Sg, (runS t w).length = t.outs.length := fun w => by rw [runS, List.length_map]
  -- the table, the telling
  generalize hT1 : (allS [some false, some true] t.n).map (runS t) = r1
  generalize hT2 : (allS [some false, some true, none] t.n).map (runS t) = r2
  have m1 : ∀ w ∈ r1, w.length = t.outs.length := fun w hw => by
    rw [← hT1] at hw
    obtain ⟨u, _, rfl⟩ := List.mem_map.mp hw
    exact rlen u
  have m2 : ∀ w ∈ r2, w.length = t.outs.length := fun w hw => by
    rw [← hT2] at hw
    obtain ⟨u, _, rfl⟩ := List.mem_map.mp hw
    exact rlen u
  have l1 : 2 ≤ r1.length ∧ r1.length ≤ 16 := by
    rw [← hT1, List.length_map, allS_len]
    exact ⟨Nat.pow_le_pow_right (show 0 < 2 by decide) n1, Nat.pow_le_pow_right (show 0 < 2 by decide) hn⟩
  have l2 : 2 ≤ r2.length ∧ r2.length ≤ 81 := by
    rw [← hT2, List.length_map, allS_len]
    exact ⟨Nat.le_trans (by decide) (Nat.pow_le_pow_right (show 0 < 3 by decide) n1), Nat.pow_le_pow_right (show 0 < 3 by decide) hn⟩
  have eT1 : tableD t = .tuple [.int t.n, .tuple (r1.map wD)] := by rw [← hT1, List.map_map]; rfl
  have eT2 : tellingD t = .tuple [.int t.n, .tuple (r2.map wD)] := by rw [← hT2, List.map_map]; rfl
  obtain ⟨a1, a2⟩ := pair_gx t.n t.outs.length (by omega) r1 (by omega) o3.1 o3.2 m1
  obtain ⟨b1, b2⟩ := pair_gx t.n t.outs.length (by omega) r2 l2.2 o3.1 o3.2 m2
  have tk := table_ok t ht (by omega) P3
  have te := telling_ok t ht (by omega) P3
  rw [eT1] at tk
  rw [eT2] at te
  have rr : gRepr [.list [.tuple [.int t.n, .tuple (r1.map wD)], .tuple [.int t.n, .tuple (r2.map wD)]]] = some (.str _) := ((Gl.cons' a1 (Gl.cons' b1 Gl.nil')).lst'.mono' (k2 := 6) (n2 := 9000) rfl rfl).repr (by decide) (by decide)
  obtain ⟨xs, q5, l5, p5⟩ := odd_ok t.n t.outs.length (by omega) n1 r1 l1.1 (by omega) o3.1 o3.2 m1 P3
  obtain ⟨ys, q6, l6, p6⟩ := odd_ok t.n t.outs.length (by omega) n1 r2 l2.1 l2.2 o3.1 o3.2 m2 P3
  have c1 : ∀ e : Vl.Env, 6 < e.length → e[4]? = some (.v t.d) → e[3]? = some (.v (.int (t.n : Int))) → _ := fun e h6 h4 h3 => runs_ok t ht [some false, some true] (by decide) (by omega) 4 (by decide) (dVar 3) (dC (.str "01")) e P3 h6 h4 (dVar_v h3) rfl
  have c2 : ∀ e : Vl.Env, 6 < e.length → e[4]? = some (.v t.d) → e[3]? = some (.v (.int (t.n : Int))) → _ := fun e h6 h4 h3 => runs_ok t ht [some false, some true, none] (by decide) (by omega) 4 (by decide) (dVar 3) (dC (.str "01?")) e P3 h6 h4 (dVar_v h3) rfl
  rw [hT1] at c1
  rw [hT2] at c2
  generalize hA : PyData.tuple [.int t.n, .tuple (r1.map wD)] = ta at *
  generalize hB : PyData.tuple [.int t.n, .tuple (r2.map wD)] = tl at *
  obtain ⟨e4, P4, q7, ⟨x9', xs', ee, hx, hl⟩, g4⟩ := bend_loop (tb := tb) (m := m) (P := P3) x0 x2 (.v (.int (t.n : Int))) (.v t.d) x6 x10 x11 x12 x13 x14 x15 x16 x17 ta tl ⟨a1, a2⟩ ⟨b1, b2⟩ (rangeD 0 4) [x0, .pen, x2, .v (.int (t.n : Int)), .v t.d, .v ta, x6, .v tl, .v (.list (xs ++ ys ++ [ta, tl])), x9, x10, x11, x12, x13, x14, x15, x16, x17]
    ⟨x9, _, rfl, all_app (all_app p5 p6) (all_cons (a1.mono (by omega) (by omega)) (all_cons (b1.mono (by omega) (by omega)) all_nil)), by rw [List.length_append, List.length_append]; show xs.length + ys.length + 2 + 2 * (rangeD 0 4).length ≤ 200; simp [rangeD]; omega⟩ (g3.mono (by simp [rangeD]))
  subst ee
  obtain ⟨e5, q8, ⟨z10, z11, z12, ez⟩⟩ := look_loop (P := P4) x0 x2 (.v (.int (t.n : Int))) (.v t.d) (.v ta) x6 (.v tl) (.v (.list xs')) x9' x13 x14 x15 x16 x17 xs' hx _ ⟨x10, x11, x12, rfl⟩
  subst ez
  refine ⟨.v (.int (t.n : Int)), .v t.d, .v ta, x6, .v tl, .v (.list xs'), x9', z10, z11, z12, P4, ?_, g4⟩
  apply sSeq_nx
  · refine sSet_ok (d := .int (t.n : Int)) (P1 := P1) ?_
    exact d2_ok dC_ok (dPen_ok1 rfl dC_ok q1) (show dAdd (.int 1) (.int (i : Int)) = some (.int (t.n : Int)) by rw [← en, ← e1]; rfl)
  apply sSeq_nx
  · rw [en, ← e2] at q3
    exact sSet_ok (dPen_ok (ds := [.int (t.n : Int), .int 7, .int (1 + (j : Int))]) rfl (aCons_ok (dVar_v rfl) (aCons_ok dC_ok (aCons_ok (d2_ok dC_ok (dPen_ok1 rfl dC_ok q2) rfl) aNil_ok))) rfl q3)
  apply sSeq_nx
  · have := sSet_ok (i := 5) (tup2 (dVar_v (env := [x0, .pen, x2, .v (.int (t.n : Int)), .v t.d, x5, x6, x7, x8, x9, x10, x11, x12, x13, x14, x15, x16, x17]) (i := 3) (P := P3) rfl) (c1 _ (show 6 < 18 by decide) rfl rfl))
    rw [hA] at this
    exact this
  apply sSeq_nx
  · have := sSet_ok (i := 7) (tup2 (dVar_v (env := [x0, .pen, x2, .v (.int (t.n : Int)), .v t.d, .v ta, x6, x7, x8, x9, x10, x11, x12, x13, x14, x15, x16, x17]) (i := 3) (P := P3) rfl) (c2 _ (show 6 < 18 by decide) rfl rfl))
    rw [hB] at this
    exact this
  apply sSeq_nx
  · exact sIf_f (P1 := P3) (tV_ok (d2_ok (dB_ok (aCons_ok (lst2 (call1 (dVar_v rfl) tk) (call1 (dVar_v rfl) te)) aNil_ok) rr) (dB_ok (aCons_ok (lst2 (dVar_v rfl) (dVar_v rfl)) aNil_ok) rr) (neS_same _))) sNil_ok
  apply sSeq_nx
  · exact sSet_ok (d2_ok (d2_ok (call1 (dVar_v rfl) q5) (call1 (dVar_v rfl) q6) (show dAdd (.list xs) (.list ys) = some (.list (xs ++ ys)) from guardD_of (decide_eq_true (by omega)))) (lst2 (dVar_v rfl) (dVar_v rfl)) (show dCat (.list (xs ++ ys)) (.list [ta, tl]) = some (.list (xs ++ ys ++ [ta, tl])) from guardD_of (decide_eq_true (by rw [List.length_append]; show xs.length + ys.length + 2 ≤ _; omega))))
  apply sSeq_nx
  · exact sFor_ok (itR1_ok (k := 4) (aCons_ok dC_ok aNil_ok) (by decide)) q7
  exact sFor_ok (itD_list (dVar_v rfl)) q8
end
end Tk
end
section
set_option autoImplicit false
set_option maxRecDepth 100000
set_option maxHeartbeats 8000000
/-! N33: law. -/
namespace Tk
open PySem Vl L2 TL
theorem tMul (d : D) (c : Nat) (h : c ≤ 1000) : dMul (.tuple [d]) (.int (c : Int)) = some (.tuple (List.replicate c d)) := by
  show guardD _ (.tuple (List.replicate (c : Int).toNat [d]).flatten) = _
  rw [guardD_of (decide_eq_true ⟨by omega, by omega, by rw [Int.toNat_natCast]; show 1 * c ≤ _; omega⟩), Int.toNat_natCast, rep_one]
theorem pair_rows (n : D) (rows : List D) (h : rows.length ≤ 16777216) (hr : ∀ r ∈ rows, Short' r) : PairOk (.tuple [n, .tuple rows]) := by
  rintro m rs e
  cases e
  exact ⟨h, hr⟩
theorem short_str (z : Str) (h : Nat.ble z.length 16777216 = true) : Short' (.str z) := fun y e => by cases e; exact Nat.le_of_ble_eq_true h
theorem short_non : Short' .none := fun y e => nomatch e
theorem pair_rep (n : D) (c : Nat) (hc : c ≤ 1000) (d : D) (hd : Short' d) : PairOk (.tuple [n, .tuple (List.replicate c d)]) :=
  pair_rows n _ (by rw [List.length_replicate]; omega) fun r hr => by rw [List.eq_of_mem_replicate hr]; exact hd
def oddN : List D := [.none, .tuple [], .tuple [.int 1, .tuple [], .tuple []], .str "net", .list [.int 1, .tuple [], .tuple [.int 0]], .tuple [.int 7, .tuple [], .tuple []], .tuple [.int 6, .tuple [], .tuple [.int 9]], .tuple [.int 32, .tuple [], .tuple [.int 0, .int 40]]]
theorem oddN_gx : ∀ d ∈ oddN, Gx 6 3000 d := by
  unfold oddN
  wtm_at "vl gall"
theorem oddN_no : ∀ d ∈ oddN, isNetB d = false := by
  intro d hd
  simp only [oddN, List.mem_cons, List.not_mem_nil, or_false] at hd
  rcases hd with rfl | rfl | rfl | rfl | rfl | rfl | rfl | rfl <;> kernel_rfl
section
variable {tb : List (Addr × Str)} {m : Nat} {P : Pen}
abbrev nnB (tb : List (Addr × Str)) : Vl.Env → M Fl := (sSeq (sIf (tV (d2 dNeA (dWord tb isaN cw__law_word "none" (dCall 1 den_table_of (aCons (dVar 13) aNil))) (dC (.str "net")))) (sRet (dC (.bool false))) sNil) (sIf (tV (d2 dNeA (dWord tb isaN cw__law_word "none" (dCall 1 den_telling_of (aCons (dVar 13) aNil))) (dC (.str "net")))) (sRet (dC (.bool false))) sNil))
def Nn (x0 x2 x3 x4 x5 x6 x7 x8 x9 x10 x11 x12 x14 x15 x16 x17 : SV) (e : Vl.Env) : Prop := ∃ x13, e = [x0, .pen, x2, x3, x4, x5, x6, x7, x8, x9, x10, x11, x12, x13, x14, x15, x16, x17]
theorem nn_loop (hP : P.tb = tb) (x0 x2 x3 x4 x5 x6 x7 x8 x9 x10 x11 x12 x14 x15 x16 x17 : SV) (env : Vl.Env) (h : Nn x0 x2 x3 x4 x5 x6 x7 x8 x9 x10 x11 x12 x14 x15 x16 x17 env) : ∃ e, loopD (tgName 13) (nnB tb) oddN env P = .ok (.nx e) P ∧ Nn x0 x2 x3 x4 x5 x6 x7 x8 x9 x10 x11 x12 x14 x15 x16 x17 e := by
  refine loop_keep _ oddN env h fun d hd env ⟨x13, e⟩ => ?_
  subst e
  have hf := (oddN_gx d hd).fine (by decide)
  have no := oddN_no d hd
  refine ⟨_, [x0, .pen, x2, x3, x4, x5, x6, x7, x8, x9, x10, x11, x12, .v d, x14, x15, x16, x17], rfl, ?_, _, rfl⟩
  apply sSeq_nx
  · exact sIf_f (P1 := P) (tV_ok (d2_ok (w_net hP (call1_ex (dVar_v rfl) (table_noNet d hf no P))) dC_ok (neS_same "net"))) sNil_ok
  exact sIf_f (P1 := P) (tV_ok (d2_ok (w_net hP (call1_ex (dVar_v rfl) (telling_noNet d hf no P))) dC_ok (neS_same "net"))) sNil_ok
/-! ### the written ones -/
def wideN : Net := ⟨1, [.neg 0], (List.replicate 16 [0, 1]).flatten⟩
theorem wideN_ok : wideN.Ok := ⟨by decide, by decide, by decide, ⟨by show 0 < 1; decide, trivial⟩, by decide, by decide, by
  intro o ho
  obtain ⟨l, hl, ho⟩ := List.mem_flatten.mp ho
  rw [List.eq_of_mem_replicate hl] at ho
  simp only [List.mem_cons, List.not_mem_nil, or_false] at ho
  show o < 1 + 1
  omega⟩
theorem wide_right_ok (P : Pen) : den__law_wide_right [] P = .ok (.bool true) P := by
  have t1 := is_table_eq (.tuple [.int 2, .tuple [.str "00", .str "0", .str "111", .str "00"]]) (pair_rows _ _ (Nat.le_of_ble_eq_true rfl) (by
    intro r hr
    simp only [List.mem_cons, List.not_mem_nil, or_false] at hr
    rcases hr with rfl | rfl | rfl | rfl <;> exact short_str _ rfl)) P
  rw [show tableB (.tuple [.int 2, .tuple [.str "00", .str "0", .str "111", .str "00"]]) = false by kernel_rfl] at t1
  have t2 := is_telling_eq (.tuple [.int 5, .tuple (List.replicate 242 (.str "0") ++ [.none])]) (pair_rows _ _ (by rw [List.length_append, List.length_replicate]; exact Nat.le_of_ble_eq_true rfl) (by
    intro r hr
    rcases (List.mem_append.mp hr) with hr | hr
    · rw [List.eq_of_mem_replicate hr]; exact short_str _ rfl
    · rw [List.mem_singleton.mp hr]; exact short_non)) P
  rw [show tellB (.tuple [.int 5, .tuple (List.replicate 242 (.str "0") ++ [.none])]) = false by kernel_rfl] at t2
  have t3 := is_telling_eq (.tuple [.int 1, .tuple [.str "00", .str "0", .str "111"]]) (pair_rows _ _ (Nat.le_of_ble_eq_true rfl) (by
    intro r hr
    simp only [List.mem_cons, List.not_mem_nil, or_false] at hr
    rcases hr with rfl | rfl | rfl <;> exact short_str _ rfl)) P
  rw [show tellB (.tuple [.int 1, .tuple [.str "00", .str "0", .str "111"]]) = false by kernel_rfl] at t3
  have w1 := table_ok wideN wideN_ok (by decide) P
  have w2 := telling_ok wideN wideN_ok (by decide) P
  have e1 : tableD wideN = .tuple [.int 1, .tuple ([(List.replicate 16 [some false, some true]).flatten, (List.replicate 16 [some true, some false]).flatten].map wD)] := by kernel_rfl
  rw [e1] at w1
  have sh := (shaped_pair 1 [(List.replicate 16 [some false, some true]).flatten, (List.replicate 16 [some true, some false]).flatten]).2.1
  refine denOf_rt ?_
  apply sSeq_nx
  · exact sSet_ok (lst2 (call1 (tup2 dC_ok (dTup_ok (aCons_ok dC_ok (aCons_ok dC_ok (aCons_ok dC_ok (aCons_ok dC_ok aNil_ok)))) (Nat.le_of_ble_eq_true rfl))) t1) (call1 (tup2 dC_ok (d2_ok (d2_ok (dTup_ok (aCons_ok dC_ok aNil_ok) (Nat.le_of_ble_eq_true rfl)) dC_ok (tMul (.str "0") 242 (by decide))) (dTup_ok (aCons_ok dC_ok aNil_ok) (Nat.le_of_ble_eq_true rfl)) (o_addT (by rw [List.length_replicate]; exact Nat.le_of_ble_eq_true rfl)))) t2))
  apply sSeq_nx
  · exact sIf_f (P1 := P) (tV_ok (d2_ok (d2_ok (bVar_v rfl) (dLst_ok (aCons_ok (call1 (tup2 dC_ok (dTup_ok (aCons_ok dC_ok (aCons_ok dC_ok (aCons_ok dC_ok aNil_ok))) (Nat.le_of_ble_eq_true rfl))) t3) aNil_ok) (Nat.le_of_ble_eq_true rfl)) (show dCat _ _ = some (.list [.bool false, .bool false, .bool false]) from rfl)) (d2_ok (dLst_ok (aCons_ok dC_ok aNil_ok) (Nat.le_of_ble_eq_true rfl)) dC_ok (show dRep _ _ = some (.list [.bool false, .bool false, .bool false]) from rfl)) (show dNeA (.list [.bool false, .bool false, .bool false]) (.list [.bool false, .bool false, .bool false]) = some (.bool false) by kernel_rfl))) sNil_ok
  apply sSeq_nx
  · exact sSet_ok (d := wideN.d) (show _ = R.ok wideN.d P by kernel_rfl)
  apply sSeq_nx
  · refine sIf_f (P1 := P) (mOr_f (tV_ok (d2_ok (call1 (dVar_v rfl) w1) (show _ = R.ok (.tuple [.int 1, .tuple ([(List.replicate 16 [some false, some true]).flatten, (List.replicate 16 [some true, some false]).flatten].map wD)]) P by kernel_rfl) (ne_shaped sh))) (tV_ok (d2_ok (d2_ok (d2_ok (call1 (dVar_v rfl) w2) dC_ok (show dIxA (tellingD wideN) (.int 1) = some (.tuple ((allS [some false, some true, none] 1).map fun w => wD (runS wideN w))) from rfl)) dC_ok (show dIxA (.tuple ((allS [some false, some true, none] 1).map fun w => wD (runS wideN w))) (.int 2) = some (wD (List.replicate 32 none)) by kernel_rfl)) (show _ = R.ok (wD (List.replicate 32 none)) P by kernel_rfl) (neS_same _)))) sNil_ok
  exact sRet_ok dC_ok
def sevN : Net := ⟨7, [], [0]⟩
theorem sevN_ok : sevN.Ok := ⟨by decide, by decide, by decide, trivial, by decide, by decide, by
  intro o ho
  rcases List.mem_singleton.mp ho with rfl
  show 0 < 7 + 0
  decide⟩
theorem reps_true (s : Sg) : tellB (.tuple [.int 4, .tuple (List.replicate 81 (wD [s]))]) = true ∧ tellB (.tuple [.int 5, .tuple (List.replicate 243 (wD [s]))]) = true ∧ tellB (.tuple [.int 6, .tuple (List.replicate 729 (wD [s]))]) = false := by
  rcases s with _ | _ | _ <;> exact ⟨by kernel_rfl, by kernel_rfl, by kernel_rfl⟩
theorem law_math (tb : List (Addr × Str)) (ns : List Int) : ∃ (cs : List Int) (P1 P2 : Pen), den__law_open [.scr ns] ⟨[], 0, 0, tb⟩ = .ok (.list [.list (cs.map PyData.int), .int 0, .int 0]) P1 ∧ b_law tb (.scr ns :: .pen :: List.replicate (n_law.length - 2) .un) ⟨cs, 0, 0, tb⟩ = .ok (.rt (.bool true)) P2 := by
  obtain ⟨cs, q0⟩ := open_ok ns ⟨[], 0, 0, tb⟩
  have g0 : Gd tb (200 + 400 + 400) ⟨cs, 0, 0, tb⟩ := ⟨rfl, Int.le_refl 0, by show (0 : Int) + ((200 + 400 + 400 : Nat) : Int) ≤ 1048576; decide⟩
  obtain ⟨a3, a4, a5, a6, a7, a8, a9, a10, a11, a12, P1, q1, g1⟩ := turnB_ok (tb := tb) (m := 200 + 400) (.scr ns) (.v (.int 0)) .un .un .un .un .un .un .un .un .un .un .un .un .un .un .un g0
  obtain ⟨b3, b4, b5, b6, b7, b8, b9, b10, b11, b12, P2, q2, g2⟩ := turnB_ok (tb := tb) (m := 200) (.scr ns) (.v (.int 1)) a3 a4 a5 a6 a7 a8 a9 a10 a11 a12 .un .un .un .un .un g1
  obtain ⟨e3, q3, ⟨b13, ee⟩⟩ := nn_loop (P := P2) g2.tb (.scr ns) (.v (.int 1)) b3 b4 b5 b6 b7 b8 b9 b10 b11 b12 .un .un .un .un _ ⟨_, rfl⟩
  subst ee
  obtain ⟨six, P3, q4, hs, sn, sg, so, g3⟩ := any_net_ok (tb := tb) (n := 100) (P := P2) 6 5 1 (by decide) (by decide) (by decide) (g2.mono (by omega))
  obtain ⟨w, P4, q5, lw, g4⟩ := any_word_ok (tb := tb) (n := 90) (P := P3) 1 (by decide) (g3.mono (by omega))
  obtain ⟨five, P5, q6, hf, fn, fg, fo, g5⟩ := any_net_ok (tb := tb) (n := 50) (P := P4) 5 3 1 (by decide) (by decide) (by decide) (g4.mono (by omega))
  obtain ⟨v, P6, q7, v0, v1, g6⟩ := take_ok (tb := tb) (n := 49) g5 4 (by decide)
  obtain ⟨s, rfl⟩ : ∃ s, w = [s] := by
    match w, lw with
    | [s], _ => exact ⟨s, rfl⟩
  have s6 := table_ok six hs (by omega) P3
  have e6 : tableD six = .tuple [.int 6, .tuple (((allS [some false, some true] six.n).map (runS six)).map wD)] := by rw [List.map_map, show (PyData.int 6) = .int (six.n : Int) by rw [sn]; rfl]; rfl
  rw [e6] at s6
  have sh6 := (shaped_pair 6 ((allS [some false, some true] six.n).map (runS six))).2.1
  have t5 := telling_ok five hf (by omega) P6
  have e5 : tellingD five = .tuple [.int (five.n : Int), .tuple (((allS [some false, some true, none] five.n).map (runS five)).map wD)] := by rw [List.map_map]; rfl
  rw [e5] at t5
  have sh5 := (shaped_pair 5 ((allS [some false, some true, none] five.n).map (runS five))).2.2
  refine ⟨cs, _, P6, q0, ?_⟩
  show b_law tb [.scr ns, .pen, .un, .un, .un, .un, .un, .un, .un, .un, .un, .un, .un, .un, .un, .un, .un, .un] ⟨cs, 0, 0, tb⟩ = _
  apply sSeq_nx
  · exact sFor_ok (itR1_ok (k := 2) (aCons_ok dC_ok aNil_ok) (by decide)) ((loop_nx rfl q1).trans ((loop_nx rfl q2).trans rfl))
  apply sSeq_nx
  · exact sFor_ok (itD_list (show _ = R.ok (PyData.list oddN) P2 from rfl)) q3
  apply sSeq_nx
  · exact sSet_ok (dPen_ok (ds := [.int 6, .int 5, .int 1]) rfl (aCons_ok dC_ok (aCons_ok dC_ok (aCons_ok dC_ok aNil_ok))) rfl q4)
  apply sSeq_nx
  · refine sIf_f (P1 := P3) (tV_ok (d2_ok (call1 (dVar_v rfl) s6) (tup2 dC_ok (runs_ok six hs [some false, some true] (by decide) (by omega) 14 (by decide) (dC (.int 6)) (dC (.str "01")) _ P3 (show 6 < 18 by decide) rfl (by rw [sn]; rfl) rfl)) (ne_shaped sh6))) sNil_ok
  apply sSeq_nx
  · exact sIf_f (P1 := P3) (tV_ok (d2_ok (w_great g3.tb (call1_ex (dVar_v rfl) (telling_great six hs (by omega) P3))) dC_ok (neS_same "great"))) sNil_ok
  apply sSeq_nx
  · exact sIf_f (P1 := P3) (tV_ok (d2_ok (w_great g3.tb (call1_ex (d := sevN.d) (show _ = R.ok sevN.d P3 from rfl) (table_great sevN sevN_ok (by decide) P3))) dC_ok (neS_same "great"))) sNil_ok
  apply sSeq_nx
  · exact sIf_f (P1 := P3) (mNot_f (tTru_ok (dCall_ok aNil_ok rfl (wide_right_ok P3)) rfl)) sNil_ok
  apply sSeq_nx
  · exact sSet_ok (dPen_ok1 rfl dC_ok q5)
  have z0 : Short' (.str "0") := short_str "0" rfl
  have zs : Short' (wD [s]) := fun y e => by
    have : wordS [s] = y := by injection e
    subst this
    rw [wordS_len]; exact Nat.le_of_ble_eq_true rfl
  have k1 := is_table_eq (.tuple [.int 5, .tuple (List.replicate 32 (.str "0"))]) (pair_rep _ 32 (by decide) _ z0) P4
  have k2 := is_table_eq (.tuple [.int 6, .tuple (List.replicate 64 (.str "0"))]) (pair_rep _ 64 (by decide) _ z0) P4
  have k3 := is_table_eq (.tuple [.int 7, .tuple (List.replicate 128 (.str "0"))]) (pair_rep _ 128 (by decide) _ z0) P4
  rw [show tableB (.tuple [.int 5, .tuple (List.replicate 32 (.str "0"))]) = true by kernel_rfl] at k1
  rw [show tableB (.tuple [.int 6, .tuple (List.replicate 64 (.str "0"))]) = true by kernel_rfl] at k2
  rw [show tableB (.tuple [.int 7, .tuple (List.replicate 128 (.str "0"))]) = false by kernel_rfl] at k3
  have k4 := is_telling_eq (.tuple [.int 4, .tuple (List.replicate 81 (wD [s]))]) (pair_rep _ 81 (by decide) _ zs) P4
  have k5 := is_telling_eq (.tuple [.int 5, .tuple (List.replicate 243 (wD [s]))]) (pair_rep _ 243 (by decide) _ zs) P4
  have k6 := is_telling_eq (.tuple [.int 6, .tuple (List.replicate 729 (wD [s]))]) (pair_rep _ 729 (by decide) _ zs) P4
  obtain ⟨r4, r5, r6⟩ := reps_true s
  rw [r4] at k4
  rw [r5] at k5
  rw [r6] at k6
  have tp : ∀ (f : Vl.Env → M D) (d : D) (n : Int) (c : Nat) (hc : c ≤ 1000) (e : Vl.Env), f e P4 = .ok d P4 → dTup (aCons (dC (.int n)) (aCons (d2 dMul (dTup (aCons f aNil)) (dC (.int (c : Int)))) aNil)) e P4 = .ok (.tuple [.int n, .tuple (List.replicate c d)]) P4 := fun f d n c hc e hf =>
    tup2 dC_ok (d2_ok (dTup_ok (aCons_ok hf aNil_ok) (Nat.le_of_ble_eq_true rfl)) dC_ok (tMul d c hc))
  apply sSeq_nx
  · exact sSet_ok (dLst_ok (aCons_ok (call1 (tp _ _ 5 32 (by decide) _ dC_ok) k1) (aCons_ok (call1 (tp _ _ 6 64 (by decide) _ dC_ok) k2) (aCons_ok (call1 (tp _ _ 7 128 (by decide) _ dC_ok) k3) aNil_ok))) (Nat.le_of_ble_eq_true rfl))
  apply sSeq_nx
  · exact sSet_ok (d2_ok (bVar_v rfl) (dLst_ok (aCons_ok (call1 (tp _ _ 4 81 (by decide) _ (dVar_v rfl)) k4) (aCons_ok (call1 (tp _ _ 5 243 (by decide) _ (dVar_v rfl)) k5) (aCons_ok (call1 (tp _ _ 6 729 (by decide) _ (dVar_v rfl)) k6) aNil_ok))) (Nat.le_of_ble_eq_true rfl)) (show dCat _ _ = some (.list [.bool true, .bool true, .bool false, .bool true, .bool true, .bool false]) from rfl))
  apply sSeq_nx
  · exact sIf_f (P1 := P4) (tV_ok (d2_ok (bVar_v rfl) (d2_ok (dLst_ok (aCons_ok dC_ok (aCons_ok dC_ok (aCons_ok dC_ok aNil_ok))) (Nat.le_of_ble_eq_true rfl)) dC_ok (show dRep _ _ = some (.list [.bool true, .bool true, .bool false, .bool true, .bool true, .bool false]) from rfl)) (show dNeA (.list [.bool true, .bool true, .bool false, .bool true, .bool true, .bool false]) (.list [.bool true, .bool true, .bool false, .bool true, .bool true, .bool false]) = some (.bool false) by kernel_rfl))) sNil_ok
  apply sSeq_nx
  · exact sSet_ok (dPen_ok (ds := [.int 5, .int 3, .int 1]) rfl (aCons_ok dC_ok (aCons_ok dC_ok (aCons_ok dC_ok aNil_ok))) rfl q6)
  refine sRet_ok ?_
  by_cases hv : 0 < v
  · exact vOr_t (d2_ok (dPen_ok1 rfl dC_ok q7) dC_ok (show dGt (.int v) (.int 0) = some (.bool true) by rw [o_gt, decide_eq_true hv]))
  · refine vOr_f (d2_ok (dPen_ok1 rfl dC_ok q7) dC_ok (show dGt (.int v) (.int 0) = some (.bool false) by rw [o_gt, decide_eq_false hv])) ?_
    refine d2_ok (d2_ok (call1 (dVar_v rfl) t5) dC_ok (show dIxA (.tuple [.int (five.n : Int), .tuple (((allS [some false, some true, none] five.n).map (runS five)).map wD)]) (.int 1) = some (.tuple (((allS [some false, some true, none] five.n).map (runS five)).map wD)) from rfl)) (runs_ok five hf [some false, some true, none] (by decide) (by omega) 17 (by decide) (dC (.int 5)) (dC (.str "01?")) _ P6 (show 6 < 18 by decide) rfl (by rw [fn]; rfl) rfl) ?_
    have ne : ((((allS [some false, some true, none] five.n).map (runS five)).map wD)).isEmpty = false := by
      rw [fn]; rfl
    show (if (((allS [some false, some true, none] five.n).map (runS five)).map wD).isEmpty || (((allS [some false, some true, none] five.n).map (runS five)).map wD).isEmpty then _ else _) = _
    rw [ne]
    exact eq_shaped sh5
end
end Tk
end
end
open PySem PySem.W PyProof.Rows
set_option maxHeartbeats 0 in
theorem PySem.Challenge.cw_halfbits_k33_tables_and_tellings_holds : PySem.Challenge.rw_halfbits_k33_tables_and_tellings.Holds := by
  exact Tk.holds (fun tb ns _ _ => Tk.law_math tb ns)
