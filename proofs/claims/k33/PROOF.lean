import PyProof.Rows.All
import Wide.All
import OpenK.AllK
import Wide.FinOn
import HandS.ForMost
import HandS.Codes
import HandS.Wide
import HandS.ReplaceLit
import HandS.ReplaceDef
import HandS.IsInst
import HandS.More
import HandS.StrMore
import HandS.Flow
import HandS.Zip
import PySem.Challenge.RW_textworkshop_k33_words_of_lines
set_option Elab.async false
set_option linter.all false
set_option maxRecDepth 100000
set_option maxHeartbeats 4000000
namespace Vf
open PySem PySem.Spec PyProof.Rows L2 SX

/-! ### heaps: all but dicts stays -/
def Ks (H H' : Hp) : Prop := (∀ b o, H b = some o → (∀ kvs, o ≠ .dK kvs) → H' b = some o) ∧ ∀ b, H' b = none → H b = none
def Tk (H H' : Hp) : Prop := ∀ b xs, H b = some (.tup xs) → H' b = some (.tup xs)
section
variable {K : PySem.W.Frag} {H H1 H2 H0 : Hp} {a p q : Addr} {xs : List V} {o : HO}
theorem Ks.refl (H : Hp) : Ks H H := ⟨fun _ _ h _ => h, fun _ h => h⟩
theorem Ks.trans (a : Ks H H1) (b : Ks H1 H2) : Ks H H2 := ⟨fun c o h n => b.1 c o (a.1 c o h n) n, fun c h => a.2 c (b.2 c h)⟩
theorem Ks.of (s : Same H H1) : Ks H H1 := ⟨fun b o h _ => s b o h, fun b h => s.free h⟩
theorem Ks.tk (s : Ks H H1) : Tk H H1 := fun b xs h => s.1 b _ h (fun _ e => nomatch e)
theorem Ks.lst (s : Ks H H1) (h : H a = some (.lst xs)) : H1 a = some (.lst xs) := s.1 a _ h (fun _ e => nomatch e)
theorem Ks.tup (s : Ks H H1) (h : H a = some (.tup xs)) : H1 a = some (.tup xs) := s.1 a _ h (fun _ e => nomatch e)
theorem Ks.seq (s : Ks H H1) (h : SqL K H a xs) : SqL K H1 a xs := by
  rcases h with (h | ⟨o, h⟩) | h
  · exact .inl (.inl (s.1 _ _ h (fun _ e => nomatch e)))
  · exact .inl (.inr ⟨o, s.1 _ _ h (fun _ e => nomatch e)⟩)
  · exact .inr h
theorem Ks.seqT (s : Ks H H1) (h : SqT K H a xs) : SqT K H1 a xs := by
  rcases h with (h | ⟨o, h⟩) | h
  · exact .inl (.inl (s.1 _ _ h (fun _ e => nomatch e)))
  · exact .inl (.inr ⟨o, s.1 _ _ h (fun _ e => nomatch e)⟩)
  · exact .inr h
theorem Ks.free (s : Ks H H1) (h : H1 a = none) : H a = none := s.2 a h
theorem Ks.upd (s : Ks H0 H) (h : H0 p = none) (o : HO) : Ks H0 (upd H p o) := ⟨fun b u e n => by
  rw [upd_ne (ne_of_none e h)]
  exact s.1 b u e n, fun b e => by
  by_cases z : b = p
  · rw [z]; exact h
  · rw [upd_ne z] at e
    exact s.2 b e⟩
theorem Ks.new (s : Ks H0 H) (h : H p = none) (o : HO) : Ks H0 (L2.upd H p o) := s.upd (s.free h) o
theorem Ks.new1 (h : H p = none) (o : HO) : Ks H (L2.upd H p o) := (Ks.refl H).upd h o
theorem Ks.dict {kvs kvs' : List (Key × V)} (h : H p = some (.dK kvs)) : Ks H (L2.upd H p (.dK kvs')) := ⟨fun b u e n => by
  rw [upd_ne (fun z => by rw [z, h] at e; exact n kvs (Option.some.inj e).symm)]
  exact e, fun b e => by
  by_cases z : b = p
  · rw [z, upd_same] at e; cases e
  · rw [upd_ne z] at e; exact e⟩
theorem Tk.refl (H : Hp) : Tk H H := fun _ _ h => h
theorem Tk.trans (a : Tk H H1) (b : Tk H1 H2) : Tk H H2 := fun c xs h => b c xs (a c xs h)
theorem Tk.lst {ys : List V} (s : Tk H0 H) (h : H p = some (.lst ys)) : Tk H0 (L2.upd H p o) := fun b zs e => by
  have e1 := s b zs e
  rw [upd_ne (fun z => by rw [z, h] at e1; cases e1)]
  exact e1
theorem Tk.new (s : Tk H0 H) (h : H p = none) : Tk H0 (L2.upd H p o) := fun b zs e => by
  have e1 := s b zs e
  rw [upd_ne (ne_of_none e1 h)]
  exact e1
end
theorem szB {n : Nat} (h : n ≤ 1000000) : n ≤ sizeLine := Nat.le_trans h (by decide)
theorem szL {n : Nat} (h : n ≤ 1000000) : n < sizeLine := Nat.lt_of_le_of_lt h (by decide)
theorem sz24 {n : Nat} (h : n ≤ 1000000) : n ≤ 16777216 := Nat.le_trans h (by decide)

def signsL : List Nat := [10, 32, 33, 34, 35, 36, 38, 39, 40, 41, 42, 43, 44, 45, 46, 47, 48, 49, 50, 51, 52, 53, 54, 55, 56, 57, 58, 59, 60, 61, 62, 63, 64, 65, 66, 67, 68, 69, 70, 71, 72, 73, 74, 75, 76, 77, 78, 79, 80, 81, 82, 83, 84, 85, 86, 87, 88, 89, 90, 91, 92, 93, 94, 95, 96, 97, 98, 99, 100, 101, 102, 103, 104, 105, 106, 107, 108, 109, 110, 111, 112, 113, 114, 115, 116, 117, 118, 119, 120, 121, 122, 123, 124, 125, 126]
def lowL : List Nat := [97, 98, 99, 100, 101, 102, 103, 104, 105, 106, 107, 108, 109, 110, 111, 112, 113, 114, 115, 116, 117, 118, 119, 120, 121, 122]
def figL : List Nat := [48, 49, 50, 51, 52, 53, 54, 55, 56, 57]
/-! ### the pen: a dict of five entries -/
def pk (c : Addr) (at_ d ct fo : Int) : List (Key × V) := [(.inr "cells", .ref c), (.inr "at", .int at_), (.inr "digits", .int d), (.inr "count", .int ct), (.inr "fold", .int fo)]
def PenAt (H : Hp) (p c : Addr) (m : Nat) : Prop := ∃ (ns : List Int) (at_ d ct fo : Int), H p = some (.dK (pk c at_ d ct fo)) ∧ H c = some (.lst (ns.map V.int)) ∧ ns.length ≤ 63 ∧
  0 ≤ at_ ∧ 0 ≤ d ∧ 0 ≤ ct ∧ ct ≤ (m : Int) ∧ 0 ≤ fo ∧ fo < 2147483648
section
variable {H H1 : Hp} {p c q : Addr} {m n : Nat} {o : HO}
theorem PenAt.mono (h : PenAt H p c m) (l : m ≤ n) : PenAt H p c n := by
  obtain ⟨ns, a, d, t, f, h1, h2, h3, h4, h5, h6, h7, h8, h9⟩ := h
  exact ⟨ns, a, d, t, f, h1, h2, h3, h4, h5, h6, by omega, h8, h9⟩
theorem PenAt.upd (h : PenAt H p c m) (n1 : q ≠ p) (n2 : q ≠ c) : PenAt (L2.upd H q o) p c m := by
  obtain ⟨ns, a, d, t, f, h1, h2, r⟩ := h
  exact ⟨ns, a, d, t, f, by rw [upd_ne n1.symm]; exact h1, by rw [upd_ne n2.symm]; exact h2, r⟩
theorem PenAt.ne (h : PenAt H p c m) (e : H q = none) : q ≠ p ∧ q ≠ c := by
  obtain ⟨ns, a, d, t, f, h1, h2, r⟩ := h
  exact ⟨(ne_of_none h1 e).symm, (ne_of_none h2 e).symm⟩
theorem PenAt.new (h : PenAt H p c m) (e : H q = none) : PenAt (L2.upd H q o) p c m := h.upd (h.ne e).1 (h.ne e).2
theorem PenAt.same (h : PenAt H p c m) (s : Same H H1) : PenAt H1 p c m := by
  obtain ⟨ns, a, d, t, f, h1, h2, r⟩ := h
  exact ⟨ns, a, d, t, f, s _ _ h1, s _ _ h2, r⟩
end

section
variable {H : Hp} {p c : Addr} {a d t f z : Int}
theorem pg_cells (h : H p = some (.dK (pk c a d t f))) : DGet H p (.str "cells") (some (.ref c)) := .inl ⟨_, Sum.inr "cells", .inl h, rfl, rfl⟩
theorem pg_at (h : H p = some (.dK (pk c a d t f))) : DGet H p (.str "at") (some (.int a)) := .inl ⟨_, Sum.inr "at", .inl h, rfl, rfl⟩
theorem pg_digits (h : H p = some (.dK (pk c a d t f))) : DGet H p (.str "digits") (some (.int d)) := .inl ⟨_, Sum.inr "digits", .inl h, rfl, rfl⟩
theorem pg_count (h : H p = some (.dK (pk c a d t f))) : DGet H p (.str "count") (some (.int t)) := .inl ⟨_, Sum.inr "count", .inl h, rfl, rfl⟩
theorem pg_fold (h : H p = some (.dK (pk c a d t f))) : DGet H p (.str "fold") (some (.int f)) := .inl ⟨_, Sum.inr "fold", .inl h, rfl, rfl⟩
theorem pp_at (h : H p = some (.dK (pk c a d t f))) : DPut H p (.str "at") (.int z) (upd H p (.dK (pk c z d t f))) := .inl ⟨_, Sum.inr "at", h, rfl, szL (by show 5 ≤ 1000000; decide), rfl⟩
theorem pp_digits (h : H p = some (.dK (pk c a d t f))) : DPut H p (.str "digits") (.int z) (upd H p (.dK (pk c a z t f))) := .inl ⟨_, Sum.inr "digits", h, rfl, szL (by show 5 ≤ 1000000; decide), rfl⟩
theorem pp_count (h : H p = some (.dK (pk c a d t f))) : DPut H p (.str "count") (.int z) (upd H p (.dK (pk c a d z f))) := .inl ⟨_, Sum.inr "count", h, rfl, szL (by show 5 ≤ 1000000; decide), rfl⟩
theorem pp_fold (h : H p = some (.dK (pk c a d t f))) : DPut H p (.str "fold") (.int z) (upd H p (.dK (pk c a d t z))) := .inl ⟨_, Sum.inr "fold", h, rfl, szL (by show 5 ≤ 1000000; decide), rfl⟩
end

theorem ix_tupK {X : Cx} {K : PySem.W.Frag} (hK : X.K = K) : IxR X (rIxT K) := by subst hK; exact ix_tup
theorem ix_listK {X : Cx} {K : PySem.W.Frag} (hK : X.K = K) : IxR X (rIxL K) := by subst hK; exact ix_list
theorem ix_seqK {X : Cx} {K : PySem.W.Frag} (hK : X.K = K) : IxR X (rIx K) := by subst hK; exact ix_seq
theorem op_in_seqK {X : Cx} {K : PySem.W.Frag} (hK : X.K = K) : OpR X (compareOp .In) (rIn K false) := by subst hK; exact op_in_seq
theorem pe_c0 {X : Cx} {k j : Nat} {x : Str} {sp : Sp} {dvs : List V} {p pos : Pos} (c : C8.Cal X.prog X.w X.K X.mg X.base k x sp dvs) (hr : Room j X.A) (hk : k ≤ j) (hg : Gl X x) (hdb : (x == ("__debug__" : Str)) = false := by decide) :
    PE X (.Call (.Name x p) [] [] pos) (tCall sp dvs C8.E0 tNil) := by
  obtain ⟨f, fd, ps, ds, F, hm, kp, b, d⟩ := c.ex
  exact pe_call0 F (hr.mono hk) hg hm kp b d C8.pass0 hdb

/-! ### '..' * n -/
def repL (n : Nat) (l : List Nat) : List Nat := (List.replicate n l).flatten
theorem rep_nil : ∀ n : Nat, repL n [] = []
  | 0 => rfl
  | n + 1 => rep_nil n
theorem rep_len (l : List Nat) : ∀ n : Nat, (repL n l).length = n * l.length
  | 0 => by rw [Nat.zero_mul]; rfl
  | n + 1 => by
    show (l ++ repL n l).length = _
    rw [List.length_append, rep_len l n, Nat.succ_mul, Nat.add_comm]
theorem fold_rep (l acc : List Nat) : ∀ n : Nat, ((List.replicate n l.toArray).foldl (· ++ ·) acc.toArray) = (acc ++ repL n l).toArray
  | 0 => by
    show acc.toArray = (acc ++ []).toArray
    rw [List.append_nil]
  | n + 1 => by
    rw [List.replicate_succ, List.foldl_cons]
    rw [List.append_toArray acc l, fold_rep l (acc ++ l) n]
    unfold repL
    rw [List.replicate_succ, List.flatten_cons, List.append_assoc]
theorem op_rep_str {X : Cx} : OpR X (binaryOp .Mult) (fun x y H Q => ∃ (l : List Nat) (n : Nat), x = .str (S l) ∧ y = .int (n : Int) ∧ n ≤ 1000000 ∧ l.length * n ≤ 1000000 ∧ Q (.str (S (repL n l))) H) := by
  intro pins s σ H x y v u Q I rx ry h
  obtain ⟨l, n, rfl, rfl, hn, hl, q⟩ := h
  obtain ⟨t, rfl⟩ := rx
  obtain ⟨t', rfl⟩ := ry
  have e63 : (2 : Int) ^ 63 = 9223372036854775808 := by decide
  refine PySem.P.mul_str ?_ ?_ ?_ ?_
  · rw [decide_eq_false (by omega), decide_eq_false (by omega)]; rfl
  · intro h1 h2
    rw [S_len]
    have h3 : (1 : Int) ≤ n := by omega
    have h4 : (l.length : Int) * n ≤ 1000000 := by (rw [← Int.natCast_mul]; omega)
    have h5 : (l.length : Int) ≤ (2 ^ 63 - 1) / (n : Int) := by
      rw [Int.le_ediv_iff_mul_le (by omega)]
      omega
    omega
  · intro h1 h2
    rw [S_len]
    unfold Builtin.Str.tooLong
    have e : (sizeLine : Nat) = 16777216 := by decide
    rw [e]
    exact decide_eq_false (by rw [Int.toNat_natCast]; omega)
  · have r0 : repL 0 l = [] := rfl
    have r1 : repL 1 l = l := List.append_nil l
    by_cases c0 : n = 0
    · subst c0
      rw [if_pos (by decide)]
      exact ⟨by decide, ⟨.str (S (repL 0 l)), H, I.tok _, ⟨_, rfl⟩, q⟩⟩
    · rw [if_neg (by omega)]
      by_cases c1 : ((n : Int) == 1 || (S l).length == 0) = true
      · rw [if_pos c1]
        have er : repL n l = l := by
          rw [Bool.or_eq_true] at c1
          rcases c1 with c1 | c1
          · have : n = 1 := by
              have := of_decide_eq_true c1
              omega
            rw [this, r1]
          · rw [S_len] at c1
            have : l = [] := List.eq_nil_of_length_eq_zero (eq_of_beq c1)
            subst this
            exact rep_nil n
        rw [er] at q
        exact ⟨.str (S l), H, I, ⟨_, rfl⟩, q⟩
      · rw [if_neg c1]
        have e := fold_rep l [] n
        have e' : ((List.replicate n l.toArray).foldl (· ++ ·) #[]) = (repL n l).toArray := e
        have e2 : (n : Int).toNat = n := Int.toNat_natCast n
        have e3 : (⟨(List.replicate (n : Int).toNat (S l).cps).foldl (· ++ ·) #[]⟩ : Str) = S (repL n l) := by
          rw [e2]
          exact congrArg Str.mk e'
        rw [e3]
        have e24 : (sizeLine : Nat) = 16777216 := by decide
        refine ⟨?_, ⟨.str (S (repL n l)), H, I.tok _, ⟨_, rfl⟩, q⟩⟩
        have el := rep_len l n
        rw [S_len, el, e24, Nat.mul_comm]
        omega

/-! ### D.get(key, x) of a dict of the module, keys texts -/
def KD (K : PySem.W.Frag) (w : World) (d : Addr) (f : Str → Option V) : Prop := ∃ es n, K.lookup d = some ⟨.type "dict", none, .dict es n, #[]⟩ ∧ PySem.W.KeysLit w.params es.toList ∧ (d == sysModules) = false ∧ ∀ z, RelO (f z) (findBy Value.isStrOf es z)
def tKGet (K : PySem.W.Frag) (w : World) (td ty tx : TE) : TE := fun σ H Q => td σ H fun x H1 => ∃ d f, x = .ref d ∧ KD K w d f ∧ ty σ H1 fun y H2 => tx σ H2 fun z H3 => ∃ k, y = .str k ∧ Q ((f k).getD z) H3
theorem pe_kget {X : Cx} {o e f : Expr} {apos cpos : Pos} {td ty tx : TE} {K : PySem.W.Frag} {w : World} (hK : X.K = K) (hw : X.w = w) (ho : PE X o td) (he : PE X e ty) (hf : PE X f tx) (m : M2 X o "get" apos e f cpos) : PE X (.Call (.Attribute o "get" apos) [e, f] [] cpos) (tKGet K w td ty tx) := by
  subst hK hw
  refine ⟨fun pins s σ H Q I h => ?_⟩
  refine wpAny_Call_method m.base m.few m.line PySem.F.plainAttrs_dict PySem.F.slot_dict_get PySem.F.type_dict_get (thn (ho.run pins s σ H _ I h) fun u s1 ⟨x, H1, I1, rx, d, g, ex, ⟨es, n, hl, hk, low, hg⟩, q1⟩ => ?_)
  subst ex
  obtain rfl : u = Value.ref d := rx
  have hm := PySem.W.mapOf_K (prog := X.prog) (w := X.w) I1.kIn hl hk
  refine ⟨hm.typeIs, fun b q => ?_, ?_⟩
  · cases q
    exact ⟨_, I1.kIn _ _ hl, rfl⟩
  rw [m.trees]
  refine Calls.callWith_builtin rfl (Calls.evalArgs_plain (Calls.spliced_cons (thn (he.run pins s1 σ H1 _ I1 q1) fun iv s2 ⟨y, H2, I2, ry, q2⟩ =>
    Calls.spliced_cons (thn (hf.run pins s2 σ H2 _ I2 q2) fun fv s3 ⟨z, H3, I3, rz, k, ey, q3⟩ => Calls.spliced_nil ?_))))
  subst ey
  obtain ⟨t, rfl⟩ := ry
  have hm3 := PySem.W.mapOf_K (prog := X.prog) (w := X.w) I3.kIn hl hk
  refine call_meetsIn PySem.F.slot_dict_get hm3.typeIs PySem.F.entry_dict_get (PySem.F.args_dict_get_3 _ _ _) (meets_dict_get_default (strKind X.prog X.w) d (strKind_is X.prog X.w k t) low fv) ⟨_, hm3, ⟨_, H3, I3.tok _, ?_, q3⟩⟩
  exact (hg k).getD rz
end Vf

set_option maxRecDepth 100000
set_option maxHeartbeats 4000000
namespace Vf
open PySem PySem.Spec PyProof.Rows L2 SX
def kd_MEANINGS (z : Str) : Option V := if z = "\"" then some (.str "\"") else if z = "\\" then some (.str "\\") else if z = "n" then some (.str "\n") else none
def kd_ESCAPES (z : Str) : Option V := if z = "\"" then some (.str "\\\"") else if z = "\\" then some (.str "\\\\") else if z = "\n" then some (.str "\\n") else none
def topS (i : Nat) : Stmt := PySem.Challenge.pw_textworkshop_k33_words_of_lines.main.body.getD i (.Pass ⟨0, 0, 0, 0⟩)
abbrev s_lineWords : Stmt := topS 7
def N_lineWords : List Str := ["line", "words", "at", "kind", "value", "behind"]
theorem sc_lineWords : FnScope N_lineWords ["line"] (C8.fnScope s_lineWords) := C8.fnScope_by (by decide +kernel)
abbrev s_wordAt : Stmt := topS 8
def N_wordAt : List Str := ["line", "at", "sign", "behind"]
theorem sc_wordAt : FnScope N_wordAt ["line", "at"] (C8.fnScope s_wordAt) := C8.fnScope_by (by decide +kernel)
abbrev s_runEnd : Stmt := topS 9
def N_runEnd : List Str := ["line", "at", "signs"]
theorem sc_runEnd : FnScope N_runEnd ["line", "at", "signs"] (C8.fnScope s_runEnd) := C8.fnScope_by (by decide +kernel)
abbrev s_numberAt : Stmt := topS 10
def N_numberAt : List Str := ["line", "at", "behind"]
theorem sc_numberAt : FnScope N_numberAt ["line", "at"] (C8.fnScope s_numberAt) := C8.fnScope_by (by decide +kernel)
abbrev s_quotedAt : Stmt := topS 11
def N_quotedAt : List Str := ["line", "at", "signs", "place", "sign"]
theorem sc_quotedAt : FnScope N_quotedAt ["line", "at"] (C8.fnScope s_quotedAt) := C8.fnScope_by (by decide +kernel)
abbrev s_quotedText : Stmt := topS 12
def N_quotedText : List Str := ["word", "sign"]
theorem sc_quotedText : FnScope N_quotedText ["word"] (C8.fnScope s_quotedText) := C8.fnScope_by (by decide +kernel)
abbrev s_pen : Stmt := topS 14
def N_pen : List Str := ["_law_script", "_law_fold", "_law_cell"]
theorem sc_pen : FnScope N_pen ["_law_script"] (C8.fnScope s_pen) := C8.fnScope_by (by decide +kernel)
abbrev s_draw : Stmt := topS 15
def N_draw : List Str := ["_law_pen_here", "_law_many", "_law_cell", "_law_digit", "_law_mixed"]
theorem sc_draw : FnScope N_draw ["_law_pen_here", "_law_many"] (C8.fnScope s_draw) := C8.fnScope_by (by decide +kernel)
abbrev s_pick : Stmt := topS 16
def N_pick : List Str := ["_law_pen_here", "_law_some"]
theorem sc_pick : FnScope N_pick ["_law_pen_here", "_law_some"] (C8.fnScope s_pick) := C8.fnScope_by (by decide +kernel)
abbrev s_quoted : Stmt := topS 17
def N_quoted : List Str := ["_law_word"]
theorem sc_quoted : FnScope N_quoted ["_law_word"] (C8.fnScope s_quoted) := C8.fnScope_by (by decide +kernel)
abbrev s_allSigns : Stmt := topS 18
def N_allSigns : List Str := []
theorem sc_allSigns : FnScope N_allSigns [] (C8.fnScope s_allSigns) := C8.fnScope_by (by decide +kernel)
abbrev s_anySign : Stmt := topS 19
def N_anySign : List Str := ["_law_pen_here", "_law_line", "_law_way"]
theorem sc_anySign : FnScope N_anySign ["_law_pen_here", "_law_line"] (C8.fnScope s_anySign) := C8.fnScope_by (by decide +kernel)
abbrev s_anyWord : Stmt := topS 20
def N_anyWord : List Str := ["_law_pen_here", "_law_least", "_law_most", "_law_line", "_law_k"]
theorem sc_anyWord : FnScope N_anyWord ["_law_pen_here", "_law_least", "_law_most", "_law_line"] (C8.fnScope s_anyWord) := C8.fnScope_by (by decide +kernel)
abbrev s_anyName : Stmt := topS 21
def N_anyName : List Str := ["_law_pen_here", "_law_k"]
theorem sc_anyName : FnScope N_anyName ["_law_pen_here"] (C8.fnScope s_anyName) := C8.fnScope_by (by decide +kernel)
abbrev s_lineOfWords : Stmt := topS 22
def N_lineOfWords : List Str := ["_law_pen_here", "_law_words", "_law_letters", "_law_figures", "_law_line", "_law_columns", "_law_k", "_law_least", "_law_some"]
theorem sc_lineOfWords : FnScope N_lineOfWords ["_law_pen_here", "_law_words"] (C8.fnScope s_lineOfWords) := C8.fnScope_by (by decide +kernel)
abbrev s_rightWord : Stmt := topS 23
def N_rightWord : List Str := ["_law_pen_here", "_law_way", "_law_name", "_law_number", "_law_text", "_law_sign"]
theorem sc_rightWord : FnScope N_rightWord ["_law_pen_here"] (C8.fnScope s_rightWord) := C8.fnScope_by (by decide +kernel)
abbrev s_wrongWord : Stmt := topS 24
def N_wrongWord : List Str := ["_law_pen_here", "_law_way", "_law_ahead", "_law_plain", "_law_k"]
theorem sc_wrongWord : FnScope N_wrongWord ["_law_pen_here"] (C8.fnScope s_wrongWord) := C8.fnScope_by (by decide +kernel)
abbrev s_law : Stmt := topS 25
def N_law : List Str := ["_law_script", "_law_pen_here", "_law_words", "_law_wrong", "_law_spot", "_law_ends", "_law_line", "_law_columns", "_law_due", "_law_word", "_law_column", "_law_bad", "_law_found", "_law_text", "_law_k"]
theorem sc_law : FnScope N_law ["_law_script"] (C8.fnScope s_law) := C8.fnScope_by (by decide +kernel)
structure Tx (K : PySem.W.Frag) (w : World) (mg : Str → Option Value) : Prop where
  z_len : mg "len" = none
  z_tuple : mg "tuple" = none
  z_int : mg "int" = none
  z_list : mg "list" = none
  z_range : mg "range" = none
  z_max : mg "max" = none
  z_str : mg "str" = none
  z_zip : mg "zip" = none
  z_isinstance : mg "isinstance" = none
  g_SIGNS : ∃ u, mg "SIGNS" = some u ∧ RelV (.str (S signsL)) u
  g_LETTERS : ∃ u, mg "LETTERS" = some u ∧ RelV (.str (S lowL)) u
  g_FIGURES : ∃ u, mg "FIGURES" = some u ∧ RelV (.str (S figL)) u
  g_MOST_FIGURES : ∃ u, mg "MOST_FIGURES" = some u ∧ RelV (.int 9) u
  g_MEANINGS : ∃ d, (∃ u, mg "MEANINGS" = some u ∧ RelV (.ref d) u) ∧ KD K w d kd_MEANINGS
  g_ESCAPES : ∃ d, (∃ u, mg "ESCAPES" = some u ∧ RelV (.ref d) u) ∧ KD K w d kd_ESCAPES
end Vf

set_option maxRecDepth 100000
set_option maxHeartbeats 4000000
namespace Vf
open PySem PySem.Spec PyProof.Rows L2 SX
section
variable {P : Program} {w : World} {K : PySem.W.Frag} {mg : Str → Option Value} {base : Heap}
/-! ### the promises -/
def spPost (p c : Addr) (m k : Nat) (H : Hp) (R : V → Hp → Prop) (Q : VK) : Prop := ∀ (H' : Hp) (v : V), Ks H H' → PenAt H' p c (m + k) → R v H' → Q v H'
def sp_pen (K : PySem.W.Frag) : Sp := fun vs H Q _ => ∃ (a : Addr) (ns : List Int), vs = [.ref a] ∧ SqL K H a (ns.map V.int) ∧ ns.length ≤ 63 ∧ ∀ (H' : Hp) (p c : Addr), Ks H H' → PenAt H' p c 0 → Q (.ref p) H'
def sp_draw : Sp := fun vs H Q _ => ∃ (p c : Addr) (m n : Nat), vs = [.ref p, .int (n : Int)] ∧ PenAt H p c m ∧ m < 1000000 ∧ 1 ≤ n ∧ n < 1073741824 ∧ ∀ (H' : Hp) (r : Nat), Ks H H' → PenAt H' p c (m + 1) → r < n → Q (.int (r : Int)) H'
def sp_pick : Sp := fun vs H Q _ => ∃ (p c : Addr) (m : Nat) (x : V), vs = [.ref p, x] ∧ PenAt H p c m ∧ m < 1000000 ∧
  ((∃ l : List Nat, x = .str (S l) ∧ 1 ≤ l.length ∧ l.length ≤ 1000000 ∧ ∀ (H' : Hp) (ch : Nat), Ks H H' → PenAt H' p c (m + 1) → ch ∈ l → Q (.str (S [ch])) H') ∨
   ∃ (a : Addr) (xs : List V), x = .ref a ∧ H a = some (.lst xs) ∧ 1 ≤ xs.length ∧ xs.length ≤ 1000000 ∧ ∀ (H' : Hp) (v : V), Ks H H' → PenAt H' p c (m + 1) → v ∈ xs → Q v H')
/-- the signs of the document but the newline, the quote mark: by their codes -/
def isSg (c : Nat) : Bool := c == 10 || (32 ≤ c && c ≤ 126 && c != 37)
def esc1 (c : Nat) : List Nat := if c = 92 then [92, 92] else if c = 34 then [92, 34] else if c = 10 then [92, 110] else [c]
def quoteL (w : List Nat) : List Nat := 34 :: (w.flatMap esc1 ++ [34])
def sp_allSigns : Sp := fun vs H Q _ => vs = [] ∧ ∀ l : List Nat, (∀ c ∈ l, c ∈ signsL) → 1 ≤ l.length → l.length ≤ 100 → Q (.str (S l)) H
def sp_quoted : Sp := fun vs H Q _ => ∃ w : List Nat, vs = [.str (S w)] ∧ w.length ≤ 1000 ∧ Q (.str (S (quoteL w))) H
def sp_anySign : Sp := fun vs H Q _ => ∃ (p c : Addr) (m : Nat) (b : Bool), vs = [.ref p, .bl b] ∧ PenAt H p c m ∧ m < 900000 ∧ ∀ (H' : Hp) (ch : Nat), Ks H H' → PenAt H' p c (m + 2) → ch ∈ signsL → Q (.str (S [ch])) H'
def sp_anyWord : Sp := fun vs H Q _ => ∃ (p c : Addr) (m l u : Nat) (b : Bool), vs = [.ref p, .int (l : Int), .int (u : Int), .bl b] ∧ PenAt H p c m ∧ m < 800000 ∧ l ≤ u ∧ u ≤ 1000 ∧
  ∀ (H' : Hp) (t : List Nat), Ks H H' → PenAt H' p c (m + 1 + u * 2) → l ≤ t.length → t.length ≤ u → (∀ c ∈ t, c ∈ signsL) → Q (.str (S t)) H'
def sp_anyName : Sp := fun vs H Q _ => ∃ (p c : Addr) (m : Nat), vs = [.ref p] ∧ PenAt H p c m ∧ m < 800000 ∧
  ∀ (H' : Hp) (t : List Nat), Ks H H' → PenAt H' p c (m + 9) → 1 ≤ t.length → t.length ≤ 8 → (∀ c ∈ t, c ∈ lowL) → Q (.str (S t)) H'
/-! ### a comprehension over a range whose element draws -/
theorem lc_pen {p c : Addr} {m0 n s : Nat} {te : TE} {k : Nat} {σ : L2.St} {H1 : Hp} {D : Addr} {Qd : Hp → Prop} (R : V → Hp → Prop) (stab : ∀ v H H', Tk H H' → R v H → R v H') (hk : k < σ.length) (hD : H1 D = none) (hp : PenAt H1 p c m0) (hn : n ≤ 1000000)
    (hs : ∀ (i : Nat) (H : Hp) (m : Nat) (Q : VK), i < n → PenAt H p c m → m ≤ m0 + i * s → (∀ (H' : Hp) (v : V), Ks H H' → PenAt H' p c (m + s) → R v H' → Q v H') → te ((wipe σ [k]).set k (some (.int ((0 : Int) + i)))) H Q)
    (hd : ∀ (H : Hp) (xs : List V), xs.length = n → (∀ v ∈ xs, R v H) → H D = some (.lst xs) → Ks H1 H → PenAt H p c (m0 + n * s) → Qd H) :
    ∃ W : Nat → Nat → Hp → Prop, (∃ m, W 0 m (upd H1 D (.lst []))) ∧ ∀ i m H, W i m H →
      ((Itr 0 n).stop i H ∧ Qd H) ∨ ((Itr 0 n).go i H ∧ ∃ Nx : Hp → Prop, (∀ H', Nx H' → ∃ m', m' < m ∧ W (i + 1) m' H') ∧ ∀ x H', (Itr 0 n).yld i H x H' → gName k x (wipe σ [k]) H' fun σ2 H2 => wipe σ2 [k] = wipe σ [k] ∧ tYes σ2 H2 fun b H3 =>
        if b = true then te σ2 H3 fun y H4 => ∃ acc, H4 D = some (.lst acc) ∧ acc.length < sizeLine ∧ Nx (upd H4 D (.lst (acc ++ [y]))) else Nx H3) := by
  have nD := hp.ne hD
  refine lc_range (lo := 0) (n := n) (fun i H => ∃ xs : List V, xs.length = i ∧ (∀ v ∈ xs, R v H) ∧ H D = some (.lst xs) ∧ Ks H1 H ∧ PenAt H p c (m0 + i * s)) ?_ ?_ ?_
  · exact ⟨[], rfl, (fun _ h => nomatch h), upd_same, Ks.new1 hD _, by rw [Nat.zero_mul]; exact hp.new hD⟩
  · rintro i H hi ⟨xs, e1, e2, e3, e4, e5⟩
    refine ⟨?_, ?_⟩
    · show ((σ.set k none).set k _).set k none = (σ.set k none)
      rw [List.set_set, List.set_set]
    · dsimp only [tYes]
      rw [if_pos rfl]
      refine hs i H _ _ hi e5 (Nat.le_refl _) (fun H' v k1 k2 k3 => ?_)
      refine ⟨xs, k1.lst e3, szL (by omega), xs ++ [v], by rw [List.length_append, e1]; rfl, fun u hu => ?_, upd_same, (e4.trans k1).upd hD _, ?_⟩
      · have tk : Tk H' (upd H' D (.lst (xs ++ [v]))) := (Tk.refl H').lst (k1.lst e3)
        rcases List.mem_append.mp hu with hu | hu
        · exact stab _ _ _ (k1.tk.trans tk) (e2 u hu)
        · rw [List.mem_singleton.mp hu]
          exact stab _ _ _ tk k3
      · rw [Nat.succ_mul, ← Nat.add_assoc]
        exact k2.upd nD.1 nD.2
  · rintro H ⟨xs, e1, e2, e3, e4, e5⟩
    exact hd H xs e1 e2 e3 e4 e5
/-- a list of one-sign texts -/
def Ones (P : Nat → Prop) (v : V) : Prop := ∃ ch, v = .str (S [ch]) ∧ P ch
theorem ones_of {P : Nat → Prop} : ∀ {xs : List V}, (∀ v ∈ xs, Ones P v) → ∃ t : List Nat, xs = ((t.map fun c => S [c]).map V.str) ∧ (∀ c ∈ t, P c)
  | [], _ => ⟨[], rfl, fun _ h => nomatch h⟩
  | v :: xs, h => by
    obtain ⟨t, e, ht⟩ := ones_of (xs := xs) fun u hu => h u (List.mem_cons_of_mem _ hu)
    obtain ⟨ch, e1, e2⟩ := h v (List.mem_cons_self ..)
    refine ⟨ch :: t, by rw [e1, e]; rfl, fun c hc => ?_⟩
    rcases List.mem_cons.mp hc with hc | hc
    · rw [hc]; exact e2
    · exact ht c hc
theorem joinL_ones : ∀ t : List Nat, TL.joinL [] (t.map fun c => [c]) = t
  | [] => rfl
  | [_] => rfl
  | c :: d :: t => by
    show [c] ++ ([] ++ TL.joinL [] ((d :: t).map fun c => [c])) = c :: d :: t
    rw [joinL_ones (d :: t)]
    rfl
theorem join_ones : ∀ t : List Nat, Txt.join (S []) (t.map fun c => S [c]) = S t := fun t => by
  have e : (t.map fun c => S [c]) = (t.map fun c => [c]).map S := by rw [List.map_map]; rfl
  rw [e, join_S]
  exact congrArg S (joinL_ones t)
theorem ones_len : ∀ t : List Nat, ((t.map fun c => S [c]).map (·.length)).sum = t.length
  | [] => rfl
  | c :: t => by
    have := ones_len t
    show 1 + ((t.map fun c => S [c]).map (·.length)).sum = t.length + 1
    omega
theorem ones_bound {t : List Nat} (h : t.length ≤ 1000000) : ((t.map fun c => S [c]).map (·.length)).sum + (t.map fun c => S [c]).length * (S []).length ≤ 16777216 := by
  rw [ones_len]
  show t.length + _ * 0 ≤ 16777216
  omega
/-! ### x.replace of one sign -/
def rep1 (c : Nat) (z : List Nat) (d : Nat) : List Nat := if d = c then z else [d]
theorem spl_ne (c : Nat) : ∀ (l acc : List Nat), ∃ p r, TL.spl [c] 0 acc l = p :: r
  | [], acc => ⟨acc, [], rfl⟩
  | d :: l, acc => by
    by_cases e : TL.pre [c] (d :: l) = true
    · exact ⟨acc, _, TL.spl_hit e⟩
    · rw [TL.spl_miss (Bool.eq_false_iff.mpr e)]
      exact spl_ne c l _
theorem join_spl (c : Nat) (z : List Nat) : ∀ (l acc : List Nat), TL.joinL z (TL.spl [c] 0 acc l) = acc ++ l.flatMap (rep1 c z)
  | [], acc => (List.append_nil acc).symm
  | d :: l, acc => by
    have hp : TL.pre [c] (d :: l) = decide (d = c) := by
      show ([d] == [c]) = _
      by_cases e : d = c
      · subst e; simp
      · simp [e]
    rw [List.flatMap_cons]
    by_cases e : d = c
    · rw [TL.spl_hit (by rw [hp]; exact decide_eq_true e)]
      obtain ⟨p, r, h⟩ := spl_ne c l []
      have ih := join_spl c z l []
      show TL.joinL z (acc :: TL.spl [c] 0 [] l) = _
      rw [h] at ih ⊢
      show acc ++ (z ++ TL.joinL z (p :: r)) = _
      rw [ih]
      unfold rep1
      rw [if_pos e]
      rfl
    · rw [TL.spl_miss (by rw [hp]; exact decide_eq_false e), join_spl c z l (acc ++ [d])]
      unfold rep1
      rw [if_neg e, List.append_assoc]
theorem repl1 {c : Nat} (hc : c < 256) (z l : List Nat) : Txt.replace (S l) (S [c]) (S z) = S (l.flatMap (rep1 c z)) := by
  have e := StrLaws.replace_one (S l) (S z) c
  have e2 : Txt.split (S l) (S [c]) = (TL.spl [c] 0 [] l).map S := split_S (by simp) (by simp [hc])
  show Txt.replace (S l) ⟨#[c]⟩ (S z) = _
  rw [e]
  show Str.join (S z) (Txt.split (S l) (S [c])) = _
  rw [e2]
  refine TL.ext_tl ?_
  rw [TL.tl_join, map_S_tl]
  exact join_spl c z l []
theorem flat_le {f : Nat → List Nat} {k : Nat} (h : ∀ c, (f c).length ≤ k) : ∀ l : List Nat, (l.flatMap f).length ≤ k * l.length
  | [] => Nat.zero_le _
  | c :: l => by
    have := flat_le h l
    have := h c
    rw [List.flatMap_cons, List.length_append, List.length_cons, Nat.mul_succ]
    omega
theorem rep1_le (c : Nat) (a b : Nat) (d : Nat) : (rep1 c [a, b] d).length ≤ 2 := by
  unfold rep1
  split
  · exact Nat.le_refl _
  · show 1 ≤ 2; decide
theorem esc_three (w : List Nat) : ((w.flatMap (rep1 92 [92, 92])).flatMap (rep1 34 [92, 34])).flatMap (rep1 10 [92, 110]) = w.flatMap esc1 := by
  induction w with
  | nil => rfl
  | cons c w ih =>
    rw [List.flatMap_cons, List.flatMap_append, List.flatMap_append, ih, List.flatMap_cons]
    congr 1
    unfold esc1
    by_cases h1 : c = 92
    · subst h1; rfl
    · by_cases h2 : c = 34
      · subst h2; rfl
      · by_cases h3 : c = 10
        · subst h3; rfl
        · rw [if_neg h1, if_neg h2, if_neg h3]
          have e1 : rep1 92 [92, 92] c = [c] := if_neg h1
          have e2 : rep1 34 [92, 34] c = [c] := if_neg h2
          have e3 : rep1 10 [92, 110] c = [c] := if_neg h3
          rw [e1]
          show (rep1 34 [92, 34] c ++ []).flatMap (rep1 10 [92, 110]) = [c]
          rw [e2]
          show rep1 10 [92, 110] c ++ [] = [c]
          rw [e3]
          rfl
theorem esc_len (w : List Nat) : (w.flatMap esc1).length ≤ 2 * w.length := flat_le (fun c => by
  unfold esc1
  split
  · exact Nat.le_refl _
  · split
    · exact Nat.le_refl _
    · split
      · exact Nat.le_refl _
      · show 1 ≤ 2; decide) w
theorem quote_len (w : List Nat) : (quoteL w).length ≤ 2 * w.length + 2 := by
  have := esc_len w
  show (w.flatMap esc1 ++ [34]).length + 1 ≤ _
  rw [List.length_append]
  show (w.flatMap esc1).length + 1 + 1 ≤ _
  omega
/-! ### what words.py computes -/
abbrev W3 : Type := Str × V × Nat
def w3V (w : W3) : List V := [.str w.1, w.2.1, .int (w.2.2 : Int)]
def runEnd (sg l : List Nat) (i : Nat) : Nat := i + ((l.drop i).takeWhile (fun c => decide (c ∈ sg))).length
def numAt (l : List Nat) (i : Nat) : W3 :=
  if runEnd figL l i - i > 1 ∧ l[i]? = some 48 then ("bad number", .int ((i : Int) + 2), runEnd figL l i)
  else if runEnd figL l i - i > 9 then ("bad number", .int ((i : Int) + 9 + 1), runEnd figL l i)
  else ("number", .int ((NumText.digitsVal ((l.drop i).take (runEnd figL l i - i)) : Nat) : Int), runEnd figL l i)
def mean (c : Nat) : Option Nat := if c = 34 then some 34 else if c = 92 then some 92 else if c = 110 then some 10 else none
def qRead (a0 : Nat) : List Nat → Nat → List Nat → W3
  | [], pl, _ => ("bad quoted", .int ((a0 : Int) + 1), pl)
  | c :: r, pl, acc =>
    if c = 34 then ("quoted", .str (S acc), pl + 1)
    else if c = 92 then (match r with
      | [] => ("bad quoted", .int ((pl : Int) + 1), pl)
      | e :: r' => match mean e with
        | none => ("bad quoted", .int ((pl : Int) + 1), pl)
        | some m => qRead a0 r' (pl + 2) (acc ++ [m]))
    else if c ∈ signsL then qRead a0 r (pl + 1) (acc ++ [c])
    else ("bad quoted", .int ((pl : Int) + 1), pl)
def wAt (l : List Nat) (i : Nat) : W3 :=
  match l[i]? with
  | none => ("", .non, 0)
  | some c =>
    if c ∈ lowL then ("name", .str (S ((l.drop i).take (runEnd lowL l i - i))), runEnd lowL l i)
    else if c ∈ figL then numAt l i
    else if c = 34 then qRead i (l.drop (i + 1)) (i + 1) []
    else if c = 40 ∨ c = 41 then ("bracket", .str (S [c]), i + 1)
    else ("bad sign", .int ((i : Int) + 1), i + 1)
def isBad (k : Str) : Bool := Txt.startswith k "bad"
inductive Lex (l : List Nat) : Nat → List W3 → Prop
  | done {i : Nat} (h : l.length ≤ i) : Lex l i []
  | blank {i : Nat} {ws : List W3} (h : l[i]? = some 32) (r : Lex l (i + 1) ws) : Lex l i ws
  | word {i c : Nat} {ws : List W3} (h : l[i]? = some c) (n : c ≠ 32) (b : isBad (wAt l i).1 = false) (r : Lex l (wAt l i).2.2 ws) : Lex l i (((wAt l i).1, (wAt l i).2.1, i + 1) :: ws)
  | bad {i c : Nat} (h : l[i]? = some c) (n : c ≠ 32) (b : isBad (wAt l i).1 = true) : Lex l i [((wAt l i).1, (wAt l i).2.1, i + 1)]
theorem runEnd_step {sg l : List Nat} {i c : Nat} (h : l[i]? = some c) (hc : c ∈ sg) : runEnd sg l (i + 1) = runEnd sg l i := by
  obtain ⟨hi, e⟩ := List.getElem?_eq_some_iff.mp h
  unfold runEnd
  rw [List.drop_eq_getElem_cons hi, e, List.takeWhile_cons_of_pos (by simpa using hc), List.length_cons]
  omega
theorem runEnd_stop {sg l : List Nat} {i c : Nat} (h : l[i]? = some c) (hc : ¬ c ∈ sg) : runEnd sg l i = i := by
  obtain ⟨hi, e⟩ := List.getElem?_eq_some_iff.mp h
  unfold runEnd
  rw [List.drop_eq_getElem_cons hi, e, List.takeWhile_cons_of_neg (by simpa using hc)]
  rfl
theorem runEnd_end {sg l : List Nat} {i : Nat} (h : l.length ≤ i) : runEnd sg l i = i := by
  unfold runEnd
  rw [List.drop_eq_nil_of_le h]
  rfl
theorem runEnd_ge (sg l : List Nat) (i : Nat) : i ≤ runEnd sg l i := Nat.le_add_right _ _
theorem runEnd_le {sg l : List Nat} {i : Nat} (h : i ≤ l.length) : runEnd sg l i ≤ l.length := by
  unfold runEnd
  have h1 : ((l.drop i).takeWhile (fun c => decide (c ∈ sg))).length ≤ (l.drop i).length := (List.takeWhile_prefix _).length_le
  rw [List.length_drop] at h1
  omega
theorem slice2 {a : List Nat} {i j : Nat} (h : i ≤ j) : Txt.slice (S a) (some (i : Int)) (some (j : Int)) = S ((a.drop i).take (j - i)) := by
  rw [← C8.cutS_slice]
  unfold cutS
  rw [S_len, HT.sIx_nat, HT.sIx_nat]
  show S ((a.drop (min i a.length)).take (min j a.length - min i a.length)) = _
  congr 1
  by_cases hi : i ≤ a.length
  · rw [Nat.min_eq_left hi]
    by_cases hj : j ≤ a.length
    · rw [Nat.min_eq_left hj]
    · rw [Nat.min_eq_right (by omega), List.take_of_length_le (by rw [List.length_drop]; omega), List.take_of_length_le (by rw [List.length_drop]; omega)]
  · rw [List.drop_eq_nil_of_le (by omega), List.drop_eq_nil_of_le (by omega), List.take_nil, List.take_nil]
def sp_runEnd : Sp := fun vs H Q _ => ∃ (l sg : List Nat) (i : Nat), vs = [.str (S l), .int (i : Int), .str (S sg)] ∧ l.length ≤ 100000 ∧ Q (.int ((runEnd sg l i : Nat) : Int)) H
def w3Post (w : W3) (H : Hp) (Q : VK) : Prop := ∀ (H' : Hp) (a : Addr), Same H H' → H' a = some (.tup (w3V w)) → Q (.ref a) H'
def sp_numberAt : Sp := fun vs H Q _ => ∃ (l : List Nat) (i c : Nat), vs = [.str (S l), .int (i : Int)] ∧ l.length ≤ 100000 ∧ l[i]? = some c ∧ c ∈ figL ∧ w3Post (numAt l i) H Q
def sp_quotedAt : Sp := fun vs H Q _ => ∃ (l : List Nat) (i : Nat), vs = [.str (S l), .int (i : Int)] ∧ l.length ≤ 100000 ∧ i < l.length ∧ w3Post (qRead i (l.drop (i + 1)) (i + 1) []) H Q
def sp_wordAt : Sp := fun vs H Q _ => ∃ (l : List Nat) (i : Nat), vs = [.str (S l), .int (i : Int)] ∧ l.length ≤ 100000 ∧ i < l.length ∧ w3Post (wAt l i) H Q
def sp_lineWords : Sp := fun vs H Q _ => ∃ (l : List Nat), vs = [.str (S l)] ∧ l.length ≤ 100000 ∧ ∀ (H' : Hp) (t : Addr) (as : List Addr) (ws : List W3), Same H H' → H' t = some (.tup (as.map V.ref)) → Paired (fun a w => H' a = some (.tup (w3V w))) as ws → Lex l 0 ws → Q (.ref t) H'
def sp_quotedText : Sp := fun vs H Q _ => ∃ w : List Nat, vs = [.str (S w)] ∧ w.length ≤ 1000 ∧ ∀ H', Same H H' → Q (.str (S (quoteL w))) H'
theorem same_new {H0 H : Hp} {p : Addr} (s : Same H0 H) (h : H p = none) (o : HO) : Same H0 (upd H p o) := fun b u e => by
  rw [upd_ne (ne_of_none (s b u e) h)]
  exact s b u e
theorem same_upd {H0 H : Hp} {p : Addr} (s : Same H0 H) (h : H0 p = none) (o : HO) : Same H0 (upd H p o) := fun b u e => by
  rw [upd_ne (ne_of_none e h)]
  exact s b u e
theorem sz_1 : 1 ≤ sizeLine := by decide
theorem sz_2 : 2 ≤ sizeLine := by decide
theorem sz_3 : 3 ≤ sizeLine := by decide
theorem tw_all {p : Nat → Bool} {l : List Nat} {c : Nat} (h : c ∈ l.takeWhile p) : p c = true := List.all_eq_true.mp List.all_takeWhile c h
theorem eq1 (c d : Nat) : decide (V.str (S [c]) = V.str (S [d])) = decide (c = d) := by
  by_cases h : c = d
  · subst h
    rw [decide_eq_true rfl, decide_eq_true rfl]
  · rw [decide_eq_false h]
    exact decide_eq_false fun z => h (List.cons.inj (S_inj (V.str.inj z))).1
theorem qRead_cons (a0 c : Nat) (r : List Nat) (pl : Nat) (acc : List Nat) : qRead a0 (c :: r) pl acc = ((if c = 34 then ("quoted", V.str (S acc), pl + 1)
    else if c = 92 then (match r with
      | [] => ("bad quoted", V.int ((pl : Int) + 1), pl)
      | e :: r' => match mean e with
        | none => ("bad quoted", V.int ((pl : Int) + 1), pl)
        | some m => qRead a0 r' (pl + 2) (acc ++ [m]))
    else if c ∈ signsL then qRead a0 r (pl + 1) (acc ++ [c])
    else ("bad quoted", V.int ((pl : Int) + 1), pl)) : W3) := by
  conv => lhs; unfold qRead
/-! ### what the law's words are -/
inductive GoodW : Str → V → List Nat → Prop
  | name {t : List Nat} (h1 : 1 ≤ t.length) (h2 : t.length ≤ 8) (h3 : ∀ c ∈ t, c ∈ lowL) : GoodW "name" (.str (S t)) t
  | num {n : Nat} (h : n < 1000000000) : GoodW "number" (.int (n : Int)) (TL.numL n)
  | quo {w : List Nat} (h1 : w.length ≤ 8) (h2 : ∀ c ∈ w, c ∈ signsL) : GoodW "quoted" (.str (S w)) (quoteL w)
  | bra {c : Nat} (h : c ∈ [40, 41]) : GoodW "bracket" (.str (S [c])) [c]
def aheadL (w : List Nat) : List Nat := 34 :: w.flatMap esc1
inductive BadW : Str → Int → List Nat → Prop
  | zero {n : Nat} (h : n < 1000) : BadW "bad number" 1 (48 :: TL.numL n)
  | many {d j : Nat} (h1 : 1 ≤ d) (h2 : d ≤ 9) (h3 : j < 3) : BadW "bad number" 9 (TL.numL d ++ [48, 49, 50, 51, 52, 53, 54, 55, 56] ++ repL j [57])
  | esc {w : List Nat} {e : Nat} (h1 : w.length ≤ 5) (h2 : ∀ c ∈ w, c ∈ signsL) (h3 : e ∈ [116, 97, 98, 78, 32, 48, 39, 40]) : BadW "bad quoted" (((aheadL w).length : Nat) : Int) (aheadL w ++ [92, e, 110, 34])
  | tab {w : List Nat} (h1 : w.length ≤ 5) (h2 : ∀ c ∈ w, c ∈ signsL) : BadW "bad quoted" (((aheadL w).length : Nat) : Int) (aheadL w ++ [9, 34])
  | opn {u : List Nat} (h1 : u.length ≤ 5) (h2 : ∀ c ∈ u, c ∈ [97, 32, 48, 110, 40, 41, 126, 59]) : BadW "bad quoted" 0 (34 :: u)
  | back {u : List Nat} (h1 : u.length ≤ 5) (h2 : ∀ c ∈ u, c ∈ [97, 32, 48, 110, 40, 41, 126, 59]) : BadW "bad quoted" (((34 :: u).length : Nat) : Int) (34 :: u ++ [92])
  | sign {c : Nat} (h : c ∈ [65, 90, 59, 95, 45, 39, 126, 61, 44, 9, 92, 91, 93, 96]) : BadW "bad sign" 0 [c]
def RW (v : V) (H : Hp) : Prop := ∃ (a : Addr) (k : Str) (x : V) (t : List Nat), v = .ref a ∧ H a = some (.tup [.str k, x, .str (S t)]) ∧ GoodW k x t
theorem RW.stab (v : V) (H H' : Hp) (s : Tk H H') (h : RW v H) : RW v H' := by
  obtain ⟨a, k, x, t, e, h1, h2⟩ := h
  exact ⟨a, k, x, t, e, s _ _ h1, h2⟩
def sp_rightWord : Sp := fun vs H Q _ => ∃ (p c : Addr) (m : Nat), vs = [.ref p] ∧ PenAt H p c m ∧ m < 700000 ∧ ∀ (H' : Hp) (v : V), Ks H H' → PenAt H' p c (m + 20) → RW v H' → Q v H'
def sp_wrongWord : Sp := fun vs H Q _ => ∃ (p c : Addr) (m : Nat), vs = [.ref p] ∧ PenAt H p c m ∧ m < 700000 ∧ ∀ (H' : Hp) (a : Addr) (k : Str) (o : Int) (t : List Nat), Ks H H' → PenAt H' p c (m + 40) → H' a = some (.tup [.str k, .int o, .str (S t)]) → BadW k o t → Q (.ref a) H'
theorem log_small {n : Nat} (h : n < 2000000000) : ((n : Int)).natAbs.log2 < 1920 := by
  rw [Int.natAbs_natCast]
  exact Nat.lt_trans (PySem.Flt.log2_lt_of (show 0 < 31 by decide) (by omega)) (by decide)
/-! ### a line of words with blanks between -/
def blanks (n : Nat) : List Nat := repL n [32]
theorem blanks_len (n : Nat) : (blanks n).length = n := by
  unfold blanks
  rw [rep_len]
  exact Nat.mul_one n
theorem blanks_add (a b : Nat) : blanks a ++ blanks b = blanks (a + b) := by
  induction a with
  | zero => rw [Nat.zero_add]; rfl
  | succ a ih =>
    rw [Nat.succ_add]
    show 32 :: (blanks a ++ blanks b) = 32 :: blanks (a + b)
    rw [ih]
def asm : List (Nat × List Nat) → List Nat
  | [] => []
  | (g, t) :: r => blanks g ++ (t ++ asm r)
def cols (n : Nat) : List (Nat × List Nat) → List Nat
  | [] => []
  | (g, t) :: r => (n + g + 1) :: cols (n + g + t.length) r
def clash (a b : List Nat) : Prop := ∃ c d, a.getLast? = some c ∧ b.head? = some d ∧ ((c ∈ lowL ∧ d ∈ lowL) ∨ (c ∈ figL ∧ d ∈ figL))
def Gaps : List Nat → List (Nat × List Nat) → Prop
  | _, [] => True
  | pv, (g, t) :: r => (clash pv t → 1 ≤ g) ∧ Gaps t r
def lastT : List Nat → List (Nat × List Nat) → List Nat
  | pv, [] => pv
  | _, (_, t) :: r => lastT t r
theorem asm_snoc (g : Nat) (t : List Nat) : ∀ is : List (Nat × List Nat), asm (is ++ [(g, t)]) = asm is ++ blanks g ++ t
  | [] => by show blanks g ++ (t ++ []) = [] ++ blanks g ++ t; rw [List.append_nil]; rfl
  | (a, u) :: r => by
    show blanks a ++ (u ++ asm (r ++ [(g, t)])) = blanks a ++ (u ++ asm r) ++ blanks g ++ t
    rw [asm_snoc g t r]
    simp only [List.append_assoc]
theorem cols_snoc (g : Nat) (t : List Nat) : ∀ (is : List (Nat × List Nat)) (n : Nat), cols n (is ++ [(g, t)]) = cols n is ++ [n + (asm is).length + g + 1]
  | [], n => rfl
  | (a, u) :: r, n => by
    show (n + a + 1) :: cols (n + a + u.length) (r ++ [(g, t)]) = (n + a + 1) :: (cols (n + a + u.length) r ++ [n + (blanks a ++ (u ++ asm r)).length + g + 1])
    rw [cols_snoc g t r, List.length_append, List.length_append, blanks_len]
    congr 3
    omega
theorem gaps_snoc (g : Nat) (t : List Nat) : ∀ (is : List (Nat × List Nat)) (pv : List Nat), Gaps pv is → (clash (lastT pv is) t → 1 ≤ g) → Gaps pv (is ++ [(g, t)])
  | [], pv, _, h => ⟨h, trivial⟩
  | (a, u) :: r, pv, h, h2 => ⟨h.1, gaps_snoc g t r u h.2 h2⟩
theorem lastT_snoc (g : Nat) (t : List Nat) : ∀ (is : List (Nat × List Nat)) (pv : List Nat), lastT pv (is ++ [(g, t)]) = t
  | [], _ => rfl
  | (_, u) :: r, _ => lastT_snoc g t r u
theorem cols_len : ∀ (is : List (Nat × List Nat)) (n : Nat), (cols n is).length = is.length
  | [], _ => rfl
  | (_, _) :: r, _ => congrArg (· + 1) (cols_len r _)
def sp_lineOfWords : Sp := fun vs H Q _ => ∃ (p c lw : Addr) (m : Nat) (ts : List (List Nat)), vs = [.ref p, .ref lw] ∧ PenAt H p c m ∧ m < 700000 ∧ H lw = some (.lst (ts.map fun t => V.str (S t))) ∧ ts.length ≤ 9 ∧ (∀ t ∈ ts, t ≠ [] ∧ t.length ≤ 30) ∧
  ∀ (H' : Hp) (a cl : Addr) (is : List (Nat × List Nat)) (e : Nat), Ks H H' → PenAt H' p c (m + 20) → H' a = some (.tup [.str (S (asm is ++ blanks e)), .ref cl]) → H' cl = some (.lst ((cols 0 is).map fun n : Nat => V.int (n : Int))) →
    is.map (·.2) = ts → Gaps [] is → (asm is).length ≤ 1000 → e ≤ 10 → Q (.ref a) H'
def sp_law (K : PySem.W.Frag) : Sp := fun vs H Q _ => ∃ (a : Addr) (ns : List Int), vs = [.ref a] ∧ SqL K H a (ns.map V.int) ∧ ns.length ≤ 63 ∧ ∀ H', Q (.bl true) H'

end
end Vf

set_option maxRecDepth 100000
set_option maxHeartbeats 4000000
namespace Vf
open PySem PySem.Spec PyProof.Rows L2 SX
section
variable {P : Program} {w : World} {K : PySem.W.Frag} {mg : Str → Option Value} {base : Heap}
theorem ok_pen {f : Addr} {fd : FuncData} (F : C8.Def K mg "_law_pen" s_pen f fd) (b : Binds K fd ["_law_script"] []) (T : Tx K w mg)  : C8.Cal P w K mg base 1 "_law_pen" (sp_pen K) [] := by
  refine C8.cal0 F b .nil sc_pen (fun vs H Q E h => ?_) (fun cdv A outer s H vs Q E hr h => ?_)
  · obtain ⟨a, ns, rfl, _⟩ := h; rfl
  have hu := hu_of hr
  refine ⟨_, (pss_cons (ps_set (i := 1) sc_pen.nd rfl (Or.inl rfl) pe_int)
      (pss_cons (ps_for PassesOwn.never rfl (pi_list (pv 0)) (pg_name (i := 2) sc_pen.nd rfl (Or.inl rfl))
      (pss_one (ps_set (i := 1) sc_pen.nd rfl (Or.inl rfl) (pe_op op_mod (pe_callTy call_int1 (by rfl) T.z_int (by decide +kernel) (pa_cons (pe_op op_add (pe_op op_mul (pv 1) pe_int) (pv 2)) pa_nil)) pe_int))))
      (pss_one (ps_ret (pe_disp (pps_cons pe_str (pe_callTy call_list_of (by rfl) T.z_list (by decide +kernel) (pa_cons (pv 0) pa_nil)) (pps_cons pe_str pe_int (pps_cons pe_str pe_int (pps_cons pe_str pe_int (pps_cons pe_str (pv 1) pps_nil))))) (by rfl) (by rfl) (fun z => by cases z) (by decide)))))), ?_⟩

  obtain ⟨a, ns, rfl, hS, hl, q⟩ := h
  refine ⟨_, rfl, a, rfl, ⟨_, hS⟩, for_list (K := K) (a := a) (xs := ns.map V.int) (fun i σ H2 => ∃ (f : Int) (v : Option V), σ = [some (.ref a), some (.int f), v] ∧ H2 = H ∧ 0 ≤ f ∧ f < 1000000007)
    ⟨0, none, rfl, rfl, by decide, by decide⟩ (fun i σ H2 _ ⟨_, _, _, e, _⟩ => by rw [e]; exact hS) ?_ ?_⟩
  · rintro i y σ H2 hi ⟨fo, v, rfl, rfl, h0, h1⟩
    obtain ⟨z, rfl⟩ : ∃ z, y = V.int z := by
      rw [List.getElem?_map] at hi
      cases e : ns[i]? with
      | none => rw [e] at hi; cases hi
      | some z => rw [e] at hi; exact ⟨z, (Option.some.inj hi).symm⟩
    refine ⟨_, rfl, _, _, rfl, rfl, .inl ⟨by omega, by omega⟩, _, rfl, _, _, rfl, rfl, .inl ⟨_, rfl, _, _, rfl, rfl, (by decide : (0 : Int) < 1000000007), ?_⟩⟩
    exact ⟨_, _, rfl, rfl, Int.emod_nonneg _ (by decide), Int.emod_lt_of_pos _ (by decide)⟩
  · rintro σ H2 ⟨fo, v, rfl, rfl, h0, h1⟩
    intro p np
    refine ⟨_, rfl, a, _, rfl, .inl ((Ks.new1 np _).seq hS), fun c nc => ?_⟩
    have hcp : c ≠ p := fun e => by rw [e, upd_same] at nc; cases nc
    refine ⟨_, rfl, by rw [upd_ne hcp.symm, upd_same], [(.inr "cells", .ref c), (.inr "at", .int 0), (.inr "digits", .int 0), (.inr "count", .int 0), (.inr "fold", .int fo)], rfl, (by show 5 ≤ 15; decide), ?_⟩
    have nc0 : H2 c = none := by rw [upd_ne hcp] at nc; exact nc
    refine q _ p c (((Ks.new1 np _).upd nc0 _).upd np _) ⟨ns, 0, 0, 0, fo, Eq.trans upd_same rfl, ?_, hl, by decide, by decide, by decide, by decide, h0, by omega⟩
    rw [upd_ne hcp, upd_same]

end
end Vf

set_option maxRecDepth 100000
set_option maxHeartbeats 4000000
namespace Vf
open PySem PySem.Spec PyProof.Rows L2 SX
section
variable {P : Program} {w : World} {K : PySem.W.Frag} {mg : Str → Option Value} {base : Heap}
theorem ok_draw {f : Addr} {fd : FuncData} (F : C8.Def K mg "_law_draw" s_draw f fd) (b : Binds K fd ["_law_pen_here", "_law_many"] []) (T : Tx K w mg)  : C8.Cal P w K mg base 1 "_law_draw" sp_draw [] := by
  refine C8.cal0 F b .nil sc_draw (fun vs H Q E h => ?_) (fun cdv A outer s H vs Q E hr h => ?_)
  · obtain ⟨p, c, m, n, rfl, _⟩ := h; rfl
  have hu := hu_of hr
  refine ⟨_, (pss_cons (ps_dput hu (pv 0) pe_str (pe_op op_add (pe_dget hu (pv 0) pe_str (fun _ _ => rfl)) pe_int) rfl)
      (C8.pss_cut (ps_if (PW.pt (pw_and (pt_cmpR op_eq (pe_dget hu (pv 0) pe_str (fun _ _ => rfl)) pe_int (nomark _)) (pw_and1 (pt_cmpR op_lt (pe_dget hu (pv 0) pe_str (fun _ _ => rfl)) (pe_callB call_len (by rfl) T.z_len PySem.boot_len (pa_cons (pe_dget hu (pv 0) pe_str (fun _ _ => rfl)) pa_nil)) (nomark _)))))
      (pss_cons (ps_set (i := 2) sc_draw.nd rfl (Or.inl rfl) (pe_ix ix_list (pe_dget hu (pv 0) pe_str (fun _ _ => rfl)) (pe_dget hu (pv 0) pe_str (fun _ _ => rfl)) (fun _ _ => rfl)))
      (pss_cons (ps_dput hu (pv 0) pe_str (pe_op op_add (pe_dget hu (pv 0) pe_str (fun _ _ => rfl)) pe_int) rfl)
      (pss_one (ps_if (pt_cmpR op_ge (pv 2) (pe_op op_pow pe_int pe_int) (nomark _))
      (pss_one (ps_dput hu (pv 0) pe_str (pe_op op_sub (pv 2) (pe_op op_pow pe_int pe_int)) rfl))
      (pss_one (ps_dput hu (pv 0) pe_str (pe_op op_mod (pe_callTy call_int1 (by rfl) T.z_int (by decide +kernel) (pa_cons (pe_op op_add (pe_op op_mul (pe_dget hu (pv 0) pe_str (fun _ _ => rfl)) pe_int) (pv 2)) pa_nil)) pe_int) rfl))))))
      pss_nil)
      (pss_cons (ps_if (pt_cmpR op_gt (pe_dget hu (pv 0) pe_str (fun _ _ => rfl)) pe_int (nomark _))
      (pss_cons (ps_set (i := 3) sc_draw.nd rfl (Or.inl rfl) (pe_op op_mod (pe_callTy call_int1 (by rfl) T.z_int (by decide +kernel) (pa_cons (pe_dget hu (pv 0) pe_str (fun _ _ => rfl)) pa_nil)) (pv 1)))
      (pss_cons (ps_dput hu (pv 0) pe_str (pe_op op_fdiv (pe_dget hu (pv 0) pe_str (fun _ _ => rfl)) (pv 1)) rfl)
      (pss_one (ps_ret (pv 3)))))
      pss_nil)
      (pss_cons (ps_set (i := 4) sc_draw.nd rfl (Or.inl rfl) (pe_op op_add (pe_op op_add (pe_dget hu (pv 0) pe_str (fun _ _ => rfl)) (pe_op op_mul (pe_dget hu (pv 0) pe_str (fun _ _ => rfl)) pe_int)) pe_int))
      (pss_one (ps_ret (pe_op op_mod (pe_op op_fdiv (pe_callTy call_int1 (by rfl) T.z_int (by decide +kernel) (pa_cons (pe_op op_mod (pe_op op_pow (pv 4) pe_int) pe_int) pa_nil)) pe_int) (pv 1)))))))), ?_⟩

  obtain ⟨p, c, m, n, rfl, ⟨ns, a, d, t, fo, hp, hc, hl, ha, hd, ht, htm, hf0, hf1⟩, hm, hn1, hn2, q⟩ := h
  have hpc : c ≠ p := ne_of hc hp (by intro z; cases z)
  have nx : ∀ o, (upd H p o) c = some (.lst (ns.map V.int)) := fun o => by rw [upd_ne hpc]; exact hc
  have lns : (ns.map V.int).length = ns.length := List.length_map _
  -- count
  refine ⟨_, rfl, p, _, rfl, pg_count hp, _, _, rfl, rfl, _, rfl, p, _, rfl, pp_count hp, ?_⟩
  have h1 : (upd H p (.dK (pk c a d (t + 1) fo))) p = some (.dK (pk c a d (t + 1) fo)) := upd_same
  -- the cell
  refine ⟨fun σ' H' => ∃ (v2 : Option V) (a' d' f' : Int), σ' = [some (.ref p), some (.int (n : Int)), v2, none, none] ∧ H' = upd H p (.dK (pk c a' d' (t + 1) f')) ∧ 0 ≤ a' ∧ 0 ≤ d' ∧ 0 ≤ f' ∧ f' < 2147483648, ?_, ?_⟩
  · refine ⟨_, rfl, p, _, rfl, pg_digits h1, rfl, _, rfl, ?_⟩
    refine ite2 (fun e0 => ?_) (fun _ => ?_)
    · refine ⟨_, rfl, p, _, rfl, pg_at h1, _, rfl, p, _, rfl, pg_cells h1, _, _, rfl, .inl ⟨_, SqL.of (nx _), rfl⟩, _, _, rfl, rfl, _, rfl, ?_⟩
      refine ite2 (fun e1 => ?_) (fun _ => ?_)
      · have e1' : a < (((ns.map V.int).length : Nat) : Int) := of_decide_eq_true e1
        rw [lns] at e1'
        have hk : a.toNat < ns.length := by omega
        have ek : a = ((a.toNat : Nat) : Int) := by omega
        have g : (ns.map V.int)[a.toNat]? = some (.int ns[a.toNat]) := by
          rw [List.getElem?_map, List.getElem?_eq_getElem hk]; rfl
        refine ⟨_, rfl, p, _, rfl, pg_cells h1, _, rfl, p, _, rfl, pg_at h1, c, _, a, _, rfl, rfl, SqL.of (nx _), at_of ek g, ?_⟩
        refine ⟨_, rfl, p, _, rfl, pg_at h1, _, _, rfl, rfl, _, rfl, p, _, rfl, pp_at h1, ?_⟩
        rw [upd_upd]
        have h2 : (upd H p (.dK (pk c (a + 1) d (t + 1) fo))) p = some (.dK (pk c (a + 1) d (t + 1) fo)) := upd_same
        refine ⟨_, rfl, _, _, rfl, rfl, ⟨by decide, by decide, by decide⟩, _, _, rfl, rfl, _, rfl, ?_⟩
        refine ite2 (fun e2 => ?_) (fun _ => ?_)
        · have e2' : (10 : Int) ^ (18 : Int).toNat ≤ ns[a.toNat] := of_decide_eq_true e2
          refine ⟨_, rfl, _, _, rfl, rfl, ⟨by decide, by decide, by decide⟩, _, _, rfl, rfl, _, rfl, p, _, rfl, pp_digits h2, ?_⟩
          rw [upd_upd]
          exact ⟨_, _, _, _, rfl, rfl, by omega, by omega, hf0, hf1⟩
        · refine ⟨_, rfl, p, _, rfl, pg_fold h2, _, _, rfl, rfl, .inl ⟨by omega, by omega⟩, _, rfl, _, _, rfl, rfl, .inl ⟨_, rfl, _, _, rfl, rfl, (by decide : (0 : Int) < 2147483587), _, rfl, p, _, rfl, pp_fold h2, ?_⟩⟩
          rw [upd_upd]
          exact ⟨_, _, _, _, rfl, rfl, by omega, hd, Int.emod_nonneg _ (by decide), Int.lt_trans (Int.emod_lt_of_pos _ (by decide)) (by decide)⟩
      · exact ⟨_, _, _, _, rfl, rfl, ha, hd, hf0, hf1⟩
    · exact ⟨_, _, _, _, rfl, rfl, ha, hd, hf0, hf1⟩
  · rintro σ' H' ⟨v2, a', d', f', rfl, rfl, ha', hd', hf', hf2⟩
    have h2 : (upd H p (.dK (pk c a' d' (t + 1) f'))) p = some (.dK (pk c a' d' (t + 1) f')) := upd_same
    have fin : ∀ (d2 : Int) (r : Nat), 0 ≤ d2 → r < n → Q (.int (r : Int)) (upd H p (.dK (pk c a' d2 (t + 1) f'))) := fun d2 r h0 hr' =>
      q _ r (Ks.dict hp) ⟨ns, _, _, _, _, upd_same, nx _, hl, ha', h0, by omega, by omega, hf', hf2⟩ hr'
    refine ⟨_, rfl, p, _, rfl, pg_digits h2, _, _, rfl, rfl, _, rfl, ?_⟩
    refine ite2 (fun e0 => ?_) (fun _ => ?_)
    · refine ⟨_, rfl, p, _, rfl, pg_digits h2, .inl ⟨_, rfl, _, rfl, _, _, rfl, rfl, (by omega : (0 : Int) < (n : Int)), ?_⟩⟩
      refine ⟨_, rfl, p, _, rfl, pg_digits h2, _, rfl, _, _, rfl, rfl, ⟨by omega, by omega⟩, _, rfl, p, _, rfl, pp_digits h2, ?_⟩
      rw [upd_upd]
      refine ⟨_, rfl, ?_⟩
      have e1 : d' % (n : Int) = (((d' % (n : Int)).toNat : Nat) : Int) := by
        have := Int.emod_nonneg d' (show (n : Int) ≠ 0 by omega)
        omega
      have e2 : (d' % (n : Int)).toNat < n := by
        have := Int.emod_lt_of_pos d' (show (0 : Int) < n by omega)
        have := Int.emod_nonneg d' (show (n : Int) ≠ 0 by omega)
        omega
      show Q (.int (d' % (n : Int))) _
      rw [e1]
      exact fin _ _ (Int.ediv_nonneg hd' (by omega)) e2
    · refine ⟨_, rfl, p, _, rfl, pg_fold h2, _, rfl, p, _, rfl, pg_count h2, _, _, rfl, rfl, .inr ⟨by decide, by decide⟩, _, _, rfl, rfl, _, _, rfl, rfl, ?_⟩
      refine ⟨_, rfl, _, _, rfl, rfl, ⟨by decide, by decide, ?_⟩, _, _, rfl, rfl, (by decide : (0 : Int) < 2305843009213693951), .inl ⟨_, rfl, _, _, rfl, rfl, ⟨by decide, by decide⟩, _, rfl, _, _, rfl, rfl, (by omega : (0 : Int) < (n : Int)), ?_⟩⟩
      · show (f' + (t + 1) * 7907 + 37).natAbs < 2 ^ 64
        have : (2 : Nat) ^ 64 = 18446744073709551616 := by decide
        omega
      generalize (f' + (t + 1) * 7907 + 37) ^ (17 : Int).toNat % 2305843009213693951 / 128 = z
      have e1 : z % (n : Int) = (((z % (n : Int)).toNat : Nat) : Int) := by
        have := Int.emod_nonneg z (show (n : Int) ≠ 0 by omega)
        omega
      have e2 : (z % (n : Int)).toNat < n := by
        have := Int.emod_lt_of_pos z (show (0 : Int) < n by omega)
        have := Int.emod_nonneg z (show (n : Int) ≠ 0 by omega)
        omega
      show Q (.int (z % (n : Int))) _
      rw [e1]
      exact fin _ _ hd' e2

end
end Vf

set_option maxRecDepth 100000
set_option maxHeartbeats 4000000
namespace Vf
open PySem PySem.Spec PyProof.Rows L2 SX
section
variable {P : Program} {w : World} {K : PySem.W.Frag} {mg : Str → Option Value} {base : Heap}
theorem ok_pick {f : Addr} {fd : FuncData} (F : C8.Def K mg "_law_pick" s_pick f fd) (b : Binds K fd ["_law_pen_here", "_law_some"] []) (T : Tx K w mg) (C_draw : C8.Cal P w K mg base 1 "_law_draw" sp_draw []) : C8.Cal P w K mg base 2 "_law_pick" sp_pick [] := by
  refine C8.cal0 F b .nil sc_pick (fun vs H Q E h => ?_) (fun cdv A outer s H vs Q E hr h => ?_)
  · obtain ⟨p, c, m, x, rfl, _⟩ := h; rfl
  have hu := hu_of hr
  refine ⟨_, (pss_one (ps_ret (pe_ix ix_seq (pv 1) (C8.pe_c C_draw hr (by decide) rfl (pa_cons (pv 0) (pa_cons (pe_callB call_len (by rfl) T.z_len PySem.boot_len (pa_cons (pv 1) pa_nil)) pa_nil))) (fun _ _ => rfl)))), ?_⟩

  obtain ⟨p, c, m, x, rfl, hp, hm, q⟩ := h
  rcases q with ⟨l, rfl, l1, l2, q⟩ | ⟨a, xs, rfl, ha, l1, l2, q⟩
  · refine ⟨_, rfl, _, rfl, _, rfl, _, l.length, rfl, ⟨by rw [S_len]; exact szB l2, by rw [S_len]⟩, ?_⟩
    refine ⟨p, c, m, l.length, rfl, hp, hm, l1, by omega, fun H' r k1 k2 hr' => ?_⟩
    refine .inr (.inr ⟨S l, _, l[r], rfl, rfl, by rw [S_len]; exact szB l2, atI_nat (List.getElem?_eq_getElem hr'), ?_⟩)
    exact q H' _ k1 k2 (List.getElem_mem _)
  · refine ⟨_, rfl, _, rfl, _, rfl, _, xs.length, rfl, .inl ⟨_, SqL.of ha, rfl⟩, ?_⟩
    refine ⟨p, c, m, xs.length, rfl, hp, hm, l1, by omega, fun H' r k1 k2 hr' => ?_⟩
    refine .inl ⟨a, xs, _, xs[r], rfl, rfl, SqL.of (k1.lst ha), atI_nat (List.getElem?_eq_getElem hr'), ?_⟩
    exact q H' _ k1 k2 (List.getElem_mem _)

end
end Vf

set_option maxRecDepth 100000
set_option maxHeartbeats 4000000
namespace Vf
open PySem PySem.Spec PyProof.Rows L2 SX
section
variable {P : Program} {w : World} {K : PySem.W.Frag} {mg : Str → Option Value} {base : Heap}
theorem asl : ∃ l : List Nat, (" !#$&'()*+,-./0123456789:;<=>?@ABCDEFGHIJKLMNOPQRSTUVWXYZ[\\]^_`abcdefghijklmnopqrstuvwxyz{|}~" : Str) = S l ∧ (∀ c ∈ l, c ∈ signsL) ∧ 1 ≤ l.length ∧ l.length ≤ 100 :=
  ⟨(" !#$&'()*+,-./0123456789:;<=>?@ABCDEFGHIJKLMNOPQRSTUVWXYZ[\\]^_`abcdefghijklmnopqrstuvwxyz{|}~" : Str).cps.toList, (S_tl _).symm, by decide +kernel, by decide +kernel, by decide +kernel⟩
theorem ok_allSigns {f : Addr} {fd : FuncData} (F : C8.Def K mg "_law_all_signs" s_allSigns f fd) (b : Binds K fd [] []) (T : Tx K w mg)  : C8.Cal P w K mg base 1 "_law_all_signs" sp_allSigns [] := by
  refine C8.cal0 F b .nil sc_allSigns (fun vs H Q E h => ?_) (fun cdv A outer s H vs Q E hr h => ?_)
  · obtain ⟨rfl, _⟩ := h; rfl
  have hu := hu_of hr
  refine ⟨_, (pss_one (ps_ret pe_str)), ?_⟩

  obtain ⟨rfl, q⟩ := h
  obtain ⟨l, e, h1, h2, h3⟩ := asl
  have z := q l h1 h2 h3
  rw [← e] at z
  exact z

end
end Vf

set_option maxRecDepth 100000
set_option maxHeartbeats 4000000
namespace Vf
open PySem PySem.Spec PyProof.Rows L2 SX
section
variable {P : Program} {w : World} {K : PySem.W.Frag} {mg : Str → Option Value} {base : Heap}
theorem ok_anySign {f : Addr} {fd : FuncData} (F : C8.Def K mg "_law_any_sign" s_anySign f fd) (b : Binds K fd ["_law_pen_here", "_law_line"] []) (T : Tx K w mg) (C_draw : C8.Cal P w K mg base 1 "_law_draw" sp_draw []) (C_pick : C8.Cal P w K mg base 2 "_law_pick" sp_pick []) (C_allSigns : C8.Cal P w K mg base 1 "_law_all_signs" sp_allSigns []) : C8.Cal P w K mg base 3 "_law_any_sign" sp_anySign [] := by
  refine C8.cal0 F b .nil sc_anySign (fun vs H Q E h => ?_) (fun cdv A outer s H vs Q E hr h => ?_)
  · obtain ⟨p, c, m, b, rfl, _⟩ := h; rfl
  have hu := hu_of hr
  refine ⟨_, (pss_cons (ps_set (i := 2) sc_anySign.nd rfl (Or.inl rfl) (C8.pe_c C_draw hr (by decide) rfl (pa_cons (pv 0) (pa_cons pe_int pa_nil))))
      (pss_cons (ps_if (pt_cmpR op_lt (pv 2) pe_int (nomark _))
      (pss_one (ps_ret (pe_ifExp (pt_cmpR op_eq (pv 2) pe_int (nomark _)) pe_str pe_str)))
      pss_nil)
      (pss_cons (ps_if (PW.pt (pw_and (pt_cmpR op_eq (pv 2) pe_int (nomark _)) (pw_and1 (pt_not (pt_val (pv 1))))))
      (pss_one (ps_ret pe_str))
      pss_nil)
      (pss_one (ps_ret (C8.pe_c C_pick hr (by decide) rfl (pa_cons (pv 0) (pa_cons (pe_c0 C_allSigns hr (by decide) rfl) pa_nil)))))))), ?_⟩

  obtain ⟨p, c, m, b, rfl, hp, hm, q⟩ := h
  have one : ∀ (x : Str) (ch : Nat), x = S [ch] → ch ∈ signsL → ∀ H', Ks H H' → PenAt H' p c (m + 1) → Q (.str x) H' := fun x ch e hs H' k1 k2 => by
    rw [e]
    exact q H' ch k1 (k2.mono (by omega)) hs
  refine ⟨_, rfl, p, c, m, 8, rfl, hp, by omega, by decide, by decide, fun H1 r k1 k2 hr1 => ?_⟩
  refine ⟨_, rfl, _, _, rfl, rfl, _, rfl, ?_⟩
  refine ite2 (fun _ => ?_) (fun _ => ?_)
  · refine ⟨_, rfl, rfl, _, rfl, ?_⟩
    refine ite2 (fun _ => ?_) (fun _ => ?_)
    · exact one _ 34 rfl (by decide) H1 k1 k2
    · exact one _ 92 rfl (by decide) H1 k1 k2
  · refine ⟨_, rfl, rfl, _, rfl, ?_⟩
    refine ite2 (fun _ => ?_) (fun _ => ?_)
    · refine ⟨_, rfl, _, rfl, ?_⟩
      cases b with
      | false =>
        refine iteT ?_
        exact one _ 10 rfl (by decide) H1 k1 k2
      | true =>
        refine iteF ?_
        refine ⟨_, rfl, rfl, fun l l1 l2 l3 => ?_⟩
        exact ⟨p, c, m + 1, _, rfl, k2, by omega, .inl ⟨l, rfl, l2, by omega, fun H2 ch j1 j2 j3 => q H2 ch (k1.trans j1) j2 (l1 ch j3)⟩⟩
    · refine iteF ?_
      refine ⟨_, rfl, rfl, fun l l1 l2 l3 => ?_⟩
      exact ⟨p, c, m + 1, _, rfl, k2, by omega, .inl ⟨l, rfl, l2, by omega, fun H2 ch j1 j2 j3 => q H2 ch (k1.trans j1) j2 (l1 ch j3)⟩⟩

end
end Vf

set_option maxRecDepth 100000
set_option maxHeartbeats 4000000
namespace Vf
open PySem PySem.Spec PyProof.Rows L2 SX
section
variable {P : Program} {w : World} {K : PySem.W.Frag} {mg : Str → Option Value} {base : Heap}
theorem ok_anyWord {f : Addr} {fd : FuncData} (F : C8.Def K mg "_law_any_word" s_anyWord f fd) (b : Binds K fd ["_law_pen_here", "_law_least", "_law_most", "_law_line"] []) (T : Tx K w mg) (C_draw : C8.Cal P w K mg base 1 "_law_draw" sp_draw []) (C_anySign : C8.Cal P w K mg base 3 "_law_any_sign" sp_anySign []) : C8.Cal P w K mg base 4 "_law_any_word" sp_anyWord [] := by
  refine C8.cal0 F b .nil sc_anyWord (fun vs H Q E h => ?_) (fun cdv A outer s H vs Q E hr h => ?_)
  · obtain ⟨p, c, m, l, u, b, rfl, _⟩ := h; rfl
  have hu := hu_of hr
  refine ⟨_, (pss_one (ps_ret (pe_join pe_str (pe_lc (own := [("_law_k", 4)]) (g := (gName 4)) (tt := tYes) rfl sc_anyWord.nd (pi_range1 (by rfl) T.z_range (pa_cons (pe_op op_add (pv 1) (C8.pe_c C_draw hr (by decide) rfl (pa_cons (pv 0) (pa_cons (pe_op op_add (pe_op op_sub (pv 2) (pv 1)) pe_int) pa_nil)))) pa_nil)) (blkOk_by (N := N_anyWord) (sc := C8.fnScope s_anyWord) (by decide +kernel)) (fun _ _ _ _ _ => pg_name (i := 4) sc_anyWord.nd rfl (Or.inl rfl)) (fun _ _ _ _ _ => pts_nil) (fun _ _ _ _ _ => (C8.pe_c C_anySign hr (by decide) rfl (pa_cons (pv 0) (pa_cons (pv 3) pa_nil)))))))), ?_⟩

  obtain ⟨p, c, m, l, u, bb, rfl, hp, hm, hlu, hu9, q⟩ := h
  refine ⟨⟨_, rfl⟩, _, rfl, _, rfl, _, rfl, _, rfl, _, _, rfl, rfl, _, _, rfl, rfl, p, c, m, u - l + 1, ?_, hp, by omega, by omega, by omega, fun H1 r k1 k2 hr1 => ?_⟩
  · show [V.ref p, V.int ((u : Int) - l + 1)] = [V.ref p, V.int ((u - l + 1 : Nat) : Int)]
    rw [show ((u : Int) - l + 1) = ((u - l + 1 : Nat) : Int) by omega]
  refine ⟨_, _, rfl, rfl, _, rfl, by omega, by omega, fun D hD => ?_⟩
  rw [show ((l : Int) + (r : Int)).toNat = l + r by omega]
  refine lc_pen (m0 := m + 1) (s := 2) (k := 4) (fun v _ => Ones (· ∈ signsL) v) (fun _ _ _ _ h => h) (by show 4 < 5; decide) hD k2 (by omega) (fun i H2 m2 Q2 hi hp2 hm2 hq => ?_) (fun H2 xs e1 e2 e3 e4 e5 => ?_)
  · exact ⟨_, rfl, _, rfl, p, c, m2, bb, rfl, hp2, by omega, fun H3 ch j1 j2 j3 => hq H3 _ j1 j2 ⟨ch, rfl, j3⟩⟩
  · obtain ⟨t, rfl, ht⟩ := ones_of e2
    have et : t.length = l + r := by rw [← e1, List.length_map, List.length_map]
    refine ⟨S [], D, t.map fun c => S [c], rfl, rfl, .inl (SqL.of e3), ones_bound (by omega), ?_⟩
    rw [join_ones]
    exact q H2 t (k1.trans e4) (e5.mono (by omega)) (by omega) (by omega) ht

end
end Vf

set_option maxRecDepth 100000
set_option maxHeartbeats 4000000
namespace Vf
open PySem PySem.Spec PyProof.Rows L2 SX
section
variable {P : Program} {w : World} {K : PySem.W.Frag} {mg : Str → Option Value} {base : Heap}
theorem ok_anyName {f : Addr} {fd : FuncData} (F : C8.Def K mg "_law_any_name" s_anyName f fd) (b : Binds K fd ["_law_pen_here"] []) (T : Tx K w mg) (C_draw : C8.Cal P w K mg base 1 "_law_draw" sp_draw []) (C_pick : C8.Cal P w K mg base 2 "_law_pick" sp_pick []) : C8.Cal P w K mg base 3 "_law_any_name" sp_anyName [] := by
  refine C8.cal0 F b .nil sc_anyName (fun vs H Q E h => ?_) (fun cdv A outer s H vs Q E hr h => ?_)
  · obtain ⟨p, c, m, rfl, _⟩ := h; rfl
  have hu := hu_of hr
  refine ⟨_, (pss_one (ps_ret (pe_join pe_str (pe_lc (own := [("_law_k", 1)]) (g := (gName 1)) (tt := tYes) rfl sc_anyName.nd (pi_range1 (by rfl) T.z_range (pa_cons (pe_op op_add pe_int (C8.pe_c C_draw hr (by decide) rfl (pa_cons (pv 0) (pa_cons pe_int pa_nil)))) pa_nil)) (blkOk_by (N := N_anyName) (sc := C8.fnScope s_anyName) (by decide +kernel)) (fun _ _ _ _ _ => pg_name (i := 1) sc_anyName.nd rfl (Or.inl rfl)) (fun _ _ _ _ _ => pts_nil) (fun _ _ _ _ _ => (C8.pe_c C_pick hr (by decide) rfl (pa_cons (pv 0) (pa_cons pe_str pa_nil)))))))), ?_⟩

  obtain ⟨p, c, m, rfl, hp, hm, q⟩ := h
  refine ⟨⟨_, rfl⟩, _, rfl, p, c, m, 8, rfl, hp, by omega, by omega, by omega, fun H1 r k1 k2 hr1 => ?_⟩
  refine ⟨_, _, rfl, rfl, _, rfl, by omega, by omega, fun D hD => ?_⟩
  rw [show ((1 : Int) + (r : Int)).toNat = 1 + r by omega]
  refine lc_pen (m0 := m + 1) (s := 1) (k := 1) (fun v _ => Ones (· ∈ lowL) v) (fun _ _ _ _ h => h) (by show 1 < 2; decide) hD k2 (by omega) (fun i H2 m2 Q2 hi hp2 hm2 hq => ?_) (fun H2 xs e1 e2 e3 e4 e5 => ?_)
  · exact ⟨_, rfl, p, c, m2, _, rfl, hp2, by omega, .inl ⟨lowL, rfl, by decide, by decide, fun H3 ch j1 j2 j3 => hq H3 _ j1 j2 ⟨ch, rfl, j3⟩⟩⟩
  · obtain ⟨t, rfl, ht⟩ := ones_of e2
    have et : t.length = 1 + r := by rw [← e1, List.length_map, List.length_map]
    refine ⟨S [], D, t.map fun c => S [c], rfl, rfl, .inl (SqL.of e3), ones_bound (by omega), ?_⟩
    rw [join_ones]
    exact q H2 t (k1.trans e4) (e5.mono (by omega)) (by omega) (by omega) ht

end
end Vf

set_option maxRecDepth 100000
set_option maxHeartbeats 4000000
namespace Vf
open PySem PySem.Spec PyProof.Rows L2 SX
section
variable {P : Program} {w : World} {K : PySem.W.Frag} {mg : Str → Option Value} {base : Heap}
theorem ok_quoted {f : Addr} {fd : FuncData} (F : C8.Def K mg "_law_quoted" s_quoted f fd) (b : Binds K fd ["_law_word"] []) : C8.Cal P w K mg base 1 "_law_quoted" sp_quoted [] := by
  refine ⟨⟨f, fd, ["_law_word"], [], ?_, F.mgf, F.kp, b, .nil⟩⟩
  obtain ⟨oc, od, dV, kV, doc, pm, an, cdv, ct, osl, rfl, lk, hcd⟩ := F.fn.ex
  refine fn_ofT lk hcd sc_quoted (by decide +kernel) (by decide) (fun vs H Q E h => ?_) (fun A outer s H vs Q E hr h => ?_)
  · obtain ⟨w, rfl, _⟩ := h; rfl
  obtain ⟨l, rfl, hl, q⟩ := h
  have b1 := flat_le (rep1_le 92 92 92) l
  have b2 := flat_le (rep1_le 34 92 34) (l.flatMap (rep1 92 [92, 92]))
  have b3 := flat_le (rep1_le 10 92 110) ((l.flatMap (rep1 92 [92, 92])).flatMap (rep1 34 [92, 34]))
  have e1 : Txt.replace (S l) (Str.ofString "\\") (Str.ofString "\\\\") = S (l.flatMap (rep1 92 [92, 92])) := repl1 (by decide) _ _
  have e2 : Txt.replace (S (l.flatMap (rep1 92 [92, 92]))) (Str.ofString "\"") (Str.ofString "\\\"") = S ((l.flatMap (rep1 92 [92, 92])).flatMap (rep1 34 [92, 34])) := repl1 (by decide) _ _
  have e3 : Txt.replace (S ((l.flatMap (rep1 92 [92, 92])).flatMap (rep1 34 [92, 34]))) (Str.ofString "\n") (Str.ofString "\\n") = S (((l.flatMap (rep1 92 [92, 92])).flatMap (rep1 34 [92, 34])).flatMap (rep1 10 [92, 110])) := repl1 (by decide) _ _
  refine ⟨_, CwR.psst_one (CwR.pst_ret (CwR.pet_op op_add_str (CwR.pet_op op_add_str (CwR.PET.of pe_str) (CwR.pet_replT (CwR.pet_replT (CwR.pet_replC (pv 0))))) (CwR.PET.of pe_str))), ?_⟩
  refine ⟨_, rfl, S l, rfl, ?_, S (l.flatMap (rep1 92 [92, 92])), congrArg V.str e1, ?_, S ((l.flatMap (rep1 92 [92, 92])).flatMap (rep1 34 [92, 34])), congrArg V.str e2, ?_, S [34], S (l.flatMap esc1), rfl, ?_, ?_, S (34 :: l.flatMap esc1), S [34], ?_, rfl, ?_, ?_⟩
  · rw [S_len]
    show l.length + (l.length + 1) * 2 ≤ 16777216
    omega
  · rw [S_len]
    show (l.flatMap (rep1 92 [92, 92])).length + ((l.flatMap (rep1 92 [92, 92])).length + 1) * 2 ≤ 16777216
    omega
  · rw [S_len]
    show ((l.flatMap (rep1 92 [92, 92])).flatMap (rep1 34 [92, 34])).length + (((l.flatMap (rep1 92 [92, 92])).flatMap (rep1 34 [92, 34])).length + 1) * 2 ≤ 16777216
    omega
  · rw [← esc_three]
    exact congrArg V.str e3
  · have := esc_len l
    rw [S_len, S_len]
    exact szB (by show 1 + _ ≤ 1000000; omega)
  · rw [S_cat]; rfl
  · have := esc_len l
    rw [S_len, S_len]
    exact szB (by show (l.flatMap esc1).length + 1 + 1 ≤ 1000000; omega)
  · rw [S_cat]
    exact q

end
end Vf

set_option maxRecDepth 100000
set_option maxHeartbeats 4000000
namespace Vf
open PySem PySem.Spec PyProof.Rows L2 SX
section
variable {P : Program} {w : World} {K : PySem.W.Frag} {mg : Str → Option Value} {base : Heap}
theorem ok_runEnd {f : Addr} {fd : FuncData} (F : C8.Def K mg "run_end" s_runEnd f fd) (b : Binds K fd ["line", "at", "signs"] []) (T : Tx K w mg)  : C8.Cal P w K mg base 1 "run_end" sp_runEnd [] := by
  refine C8.cal0 F b .nil sc_runEnd (fun vs H Q E h => ?_) (fun cdv A outer s H vs Q E hr h => ?_)
  · obtain ⟨l, sg, i, rfl, _⟩ := h; rfl
  have hu := hu_of hr
  refine ⟨_, (pss_cons (ps_while PassesOwn.never (PW.pt (pw_and (pt_cmpR op_lt (pv 1) (pe_callB call_len (by rfl) T.z_len PySem.boot_len (pa_cons (pv 0) pa_nil)) (nomark _)) (pw_and1 (pt_cmpR op_in_sign (pe_ix ix_str (pv 0) (pv 1) (fun _ _ => rfl)) (pv 2) rfl))))
      (pss_one (ps_aug (i := 1) sc_runEnd.nd rfl (Or.inl rfl) pe_int ip_add)))
      (pss_one (ps_ret (pv 1)))), ?_⟩

  obtain ⟨l, sg, i, rfl, hl, q⟩ := h
  refine while_by (fun σ' H' => ∃ j : Nat, σ' = [some (.str (S l)), some (.int (j : Int)), some (.str (S sg))] ∧ H' = H ∧ runEnd sg l j = runEnd sg l i) (fun σ' _ => l.length - (match σ' with | [_, some (.int z), _] => z.toNat | _ => 0)) ⟨i, rfl, rfl, rfl⟩ ?_ ?_
  · rintro σ' H' ⟨j, rfl, rfl, e⟩
    refine ⟨_, rfl, _, rfl, _, l.length, rfl, ⟨by rw [S_len]; exact szB (by omega), by rw [S_len]⟩, _, _, rfl, rfl, _, rfl, ?_⟩
    refine ite2 (fun e1 => ?_) (fun e1 => ?_)
    · have e1' : (j : Int) < (l.length : Int) := of_decide_eq_true e1
      have hj : j < l.length := by omega
      refine ⟨_, rfl, _, rfl, S l, _, l[j], rfl, rfl, by rw [S_len]; exact szB (by omega), atI_nat (List.getElem?_eq_getElem hj), _, rfl, _, _, rfl, rfl, _, rfl, ?_⟩
      refine ite2 (fun e2 => ?_) (fun e2 => ?_)
      · have e2' : l[j] ∈ sg := of_decide_eq_true e2
        refine ⟨_, rfl, _, _, rfl, rfl, ⟨j + 1, rfl, rfl, ?_⟩, ?_⟩
        · rw [runEnd_step (List.getElem?_eq_getElem hj) e2', e]
        · show l.length - ((j : Int) + 1).toNat < l.length - ((j : Int)).toNat
          omega
      · have e2' : ¬ l[j] ∈ sg := of_decide_eq_false (Bool.eq_false_iff.mpr e2)
        refine ⟨_, rfl, ?_⟩
        rw [← e, runEnd_stop (List.getElem?_eq_getElem hj) e2'] at q
        exact q
    · have e1' : ¬ (j : Int) < (l.length : Int) := of_decide_eq_false (Bool.eq_false_iff.mpr e1)
      refine iteF ?_
      refine ⟨_, rfl, ?_⟩
      rw [← e, runEnd_end (by omega)] at q
      exact q
  · rintro σ' H' Q1 Q2 hq ⟨v, hv, x, hx, y, n, e, hn, i1, j1, e1, e2, k, e3, h⟩
    refine ⟨v, hv, x, hx, y, n, e, hn, i1, j1, e1, e2, k, e3, ?_⟩
    cases k with
    | false => exact hq _ _ h
    | true =>
      obtain ⟨a1, a2, a3, a4, z, ii, cc, b1, b2, b3, b4, c1, c2, c3, c4, d1, d2, k2, d3, h⟩ := h
      exact ⟨a1, a2, a3, a4, z, ii, cc, b1, b2, b3, b4, c1, c2, c3, c4, d1, d2, k2, d3, hq _ _ h⟩

end
end Vf

set_option maxRecDepth 100000
set_option maxHeartbeats 4000000
namespace Vf
open PySem PySem.Spec PyProof.Rows L2 SX
section
variable {P : Program} {w : World} {K : PySem.W.Frag} {mg : Str → Option Value} {base : Heap}
theorem ok_numberAt {f : Addr} {fd : FuncData} (F : C8.Def K mg "number_at" s_numberAt f fd) (b : Binds K fd ["line", "at"] []) (T : Tx K w mg) (C_runEnd : C8.Cal P w K mg base 1 "run_end" sp_runEnd []) : C8.Cal P w K mg base 2 "number_at" sp_numberAt [] := by
  refine C8.cal0 F b .nil sc_numberAt (fun vs H Q E h => ?_) (fun cdv A outer s H vs Q E hr h => ?_)
  · obtain ⟨l, i, c, rfl, _⟩ := h; rfl
  have hu := hu_of hr
  refine ⟨_, (pss_cons (ps_set (i := 2) sc_numberAt.nd rfl (Or.inl rfl) (C8.pe_c C_runEnd hr (by decide) rfl (pa_cons (pv 0) (pa_cons (pv 1) (pa_cons (C8.pe_gc rfl T.g_FIGURES) pa_nil)))))
      (C8.pss_cut (ps_if (PW.pt (pw_and (pt_cmpR op_gt (pe_op op_sub (pv 2) (pv 1)) pe_int (nomark _)) (pw_and1 (pt_cmpR op_eq (pe_ix ix_str (pv 0) (pv 1) (fun _ _ => rfl)) pe_str (nomark _)))))
      (pss_one (ps_ret (pe_tup (pa_cons pe_str (pa_cons (pe_op op_add (pv 1) pe_int) (pa_cons (pv 2) pa_nil))))))
      pss_nil)
      (pss_cons (ps_if (pt_cmpR op_gt (pe_op op_sub (pv 2) (pv 1)) (C8.pe_gc rfl T.g_MOST_FIGURES) (nomark _))
      (pss_one (ps_ret (pe_tup (pa_cons pe_str (pa_cons (pe_op op_add (pe_op op_add (pv 1) (C8.pe_gc rfl T.g_MOST_FIGURES)) pe_int) (pa_cons (pv 2) pa_nil))))))
      pss_nil)
      (pss_one (ps_ret (pe_tup (pa_cons pe_str (pa_cons (pe_callTy call_int_str (by rfl) T.z_int (by decide +kernel) (pa_cons (pe_slice C8.sl_txt (pv 0) (po_some (pv 1)) (po_some (pv 2))) pa_nil)) (pa_cons (pv 2) pa_nil))))))))), ?_⟩

  obtain ⟨l, i, c, rfl, hl, hc, hfig, q⟩ := h
  obtain ⟨hi, ei⟩ := List.getElem?_eq_some_iff.mp hc
  have ge := runEnd_ge figL l i
  have le := runEnd_le (sg := figL) (show i ≤ l.length by omega)
  have gt : i < runEnd figL l i := by
    rw [← runEnd_step hc hfig]
    exact Nat.lt_of_lt_of_le (Nat.lt_succ_self i) (runEnd_ge figL l (i + 1))
  unfold numAt at q
  refine ⟨_, rfl, _, rfl, l, figL, i, rfl, hl, ?_⟩
  have ew : decide (V.str (S [c]) = V.str (Str.ofString "0")) = decide (c = 48) := eq1 c 48
  have fin3 : ∀ w : W3, w3Post w H Q → ∀ p, H p = none → Q (.ref p) (upd H p (.tup (w3V w))) := fun w hw p np => hw _ p (same_new (Same.refl H) np _) upd_same
  refine ⟨fun σ' H' => σ' = [some (.str (S l)), some (.int (i : Int)), some (.int ((runEnd figL l i : Nat) : Int))] ∧ H' = H ∧ ¬ (runEnd figL l i - i > 1 ∧ l[i]? = some 48), ?_, ?_⟩
  · refine ⟨_, rfl, _, rfl, _, _, rfl, rfl, _, _, rfl, rfl, _, rfl, ?_⟩
    refine ite2 (fun e1 => ?_) (fun e1 => ?_)
    · have e1' : (1 : Int) < ((runEnd figL l i : Nat) : Int) - (i : Int) := of_decide_eq_true e1
      refine ⟨_, rfl, _, rfl, S l, _, c, rfl, rfl, by rw [S_len]; exact szB (by omega), atI_nat hc, rfl, _, rfl, ?_⟩
      refine ite2 (fun e2 => ?_) (fun e2 => ?_)
      · have e2' : c = 48 := of_decide_eq_true (ew.symm.trans e2)
        rw [if_pos ⟨by omega, by rw [hc, e2']⟩] at q
        exact ⟨_, rfl, _, _, rfl, rfl, _, rfl, sz_3, fun p np => fin3 _ q p np⟩
      · have e2' : ¬ c = 48 := fun h => e2 (ew.trans (decide_eq_true h))
        exact ⟨rfl, rfl, fun h => e2' (by rw [hc] at h; exact Option.some.inj h.2)⟩
    · have e1' : ¬ (1 : Int) < ((runEnd figL l i : Nat) : Int) - (i : Int) := of_decide_eq_false (Bool.eq_false_iff.mpr e1)
      refine iteF ?_
      exact ⟨rfl, rfl, fun h => e1' (by omega)⟩
  · rintro σ' H' ⟨rfl, rfl, hn⟩
    rw [if_neg hn] at q
    refine ⟨_, rfl, _, rfl, _, _, rfl, rfl, _, _, rfl, rfl, _, rfl, ?_⟩
    refine ite2 (fun e1 => ?_) (fun e1 => ?_)
    · have e1' : (9 : Int) < ((runEnd figL l i : Nat) : Int) - (i : Int) := of_decide_eq_true e1
      rw [if_pos (by omega)] at q
      exact ⟨_, rfl, _, _, rfl, rfl, _, _, rfl, rfl, _, rfl, sz_3, fun p np => fin3 _ q p np⟩
    · have e1' : ¬ (9 : Int) < ((runEnd figL l i : Nat) : Int) - (i : Int) := of_decide_eq_false (Bool.eq_false_iff.mpr e1)
      rw [if_neg (by omega)] at q
      have tw : (l.drop i).take (runEnd figL l i - i) = (l.drop i).takeWhile (fun c => decide (c ∈ figL)) := by
        unfold runEnd
        rw [Nat.add_sub_cancel_left]
        exact (List.prefix_iff_eq_take.mp (List.takeWhile_prefix _)).symm
      have hd : ∀ ch ∈ (l.drop i).take (runEnd figL l i - i), 48 ≤ ch ∧ ch ≤ 57 := fun ch hch => by
        rw [tw] at hch
        have z : ch ∈ figL := of_decide_eq_true (tw_all hch)
        exact (show ∀ x ∈ figL, 48 ≤ x ∧ x ≤ 57 by decide) ch z
      have ln : ((l.drop i).take (runEnd figL l i - i)).length = runEnd figL l i - i := by
        rw [List.length_take, List.length_drop]
        omega
      refine ⟨_, rfl, _, rfl, _, rfl, _, rfl, _, rfl, S l, rfl, by rw [S_len]; exact szB (by omega), S ((l.drop i).take (runEnd figL l i - i)), _, ?_, int_S (List.all_eq_true.mpr fun ch hch => by
        have := hd ch hch
        rw [Bool.and_eq_true, decide_eq_true_eq, decide_eq_true_eq]
        exact this) (fun e => by rw [e] at ln; simp at ln; omega) (by omega), by rw [S_len]; omega, _, rfl, sz_3, fun p np => fin3 _ q p np⟩
      rw [slice2 ge]

end
end Vf

set_option maxRecDepth 100000
set_option maxHeartbeats 4000000
namespace Vf
open PySem PySem.Spec PyProof.Rows L2 SX
section
variable {P : Program} {w : World} {K : PySem.W.Frag} {mg : Str → Option Value} {base : Heap}
theorem mean_get (e : Nat) : (kd_MEANINGS (S [e])).getD (.str (Str.ofString "")) = .str (match mean e with | some m => S [m] | none => S []) := by
  have h : ∀ d : Nat, (S [e] = S [d]) ↔ e = d := fun d => ⟨fun z => (List.cons.inj (S_inj z)).1, fun z => by rw [z]⟩
  show (if S [e] = S [34] then some (V.str (S [34])) else if S [e] = S [92] then some (V.str (S [92])) else if S [e] = S [110] then some (V.str (S [10])) else none).getD (.str (S [])) = _
  unfold mean
  by_cases h1 : e = 34
  · rw [if_pos ((h 34).mpr h1), if_pos h1]; rfl
  · rw [if_neg (fun z => h1 ((h 34).mp z)), if_neg h1]
    by_cases h2 : e = 92
    · rw [if_pos ((h 92).mpr h2), if_pos h2]; rfl
    · rw [if_neg (fun z => h2 ((h 92).mp z)), if_neg h2]
      by_cases h3 : e = 110
      · rw [if_pos ((h 110).mpr h3), if_pos h3]; rfl
      · rw [if_neg (fun z => h3 ((h 110).mp z)), if_neg h3]; rfl
theorem mean_nil : (kd_MEANINGS (S [])).getD (.str (Str.ofString "")) = .str (S []) := by decide +kernel
theorem ones_snoc (acc : List Nat) (c : Nat) : (acc.map fun c => V.str (S [c])) ++ [V.str (S [c])] = ((acc ++ [c]).map fun c => V.str (S [c])) := by
  rw [List.map_append]; rfl
theorem qRead_at (a0 : Nat) {l : List Nat} {pl : Nat} (h : pl < l.length) (acc : List Nat) : qRead a0 (l.drop pl) pl acc = qRead a0 (l[pl] :: l.drop (pl + 1)) pl acc := by
  rw [List.drop_eq_getElem_cons h]
theorem ok_quotedAt {f : Addr} {fd : FuncData} (F : C8.Def K mg "quoted_at" s_quotedAt f fd) (b : Binds K fd ["line", "at"] []) (T : Tx K w mg)  : C8.Cal P w K mg base 1 "quoted_at" sp_quotedAt [] := by
  refine C8.cal0 F b .nil sc_quotedAt (fun vs H Q E h => ?_) (fun cdv A outer s H vs Q E hr h => ?_)
  · obtain ⟨l, i, rfl, _⟩ := h; rfl
  have hu := hu_of hr
  refine ⟨_, (pss_cons (ps_set (i := 2) sc_quotedAt.nd rfl (Or.inl rfl) (pe_lst pa_nil))
      (pss_cons (ps_set (i := 3) sc_quotedAt.nd rfl (Or.inl rfl) (pe_op op_add (pv 1) pe_int))
      (pss_cons (ps_while PassesOwn.never (pt_cmpR op_lt (pv 3) (pe_callB call_len (by rfl) T.z_len PySem.boot_len (pa_cons (pv 0) pa_nil)) (nomark _))
      (pss_cons (ps_set (i := 4) sc_quotedAt.nd rfl (Or.inl rfl) (pe_ix ix_str (pv 0) (pv 3) (fun _ _ => rfl)))
      (pss_cons (ps_if (pt_cmpR op_eq (pv 4) pe_str (nomark _))
      (pss_one (ps_ret (pe_tup (pa_cons pe_str (pa_cons (pe_join pe_str (pv 2)) (pa_cons (pe_op op_add (pv 3) pe_int) pa_nil))))))
      pss_nil)
      (C8.pss_cut (ps_if (pt_cmpR op_eq (pv 4) pe_str (nomark _))
      (pss_cons (ps_set (i := 4) sc_quotedAt.nd rfl (Or.inl rfl) (pe_kget (K := K) (w := w) rfl rfl (C8.pe_gc rfl (Classical.choose_spec T.g_MEANINGS).1) (pe_slice C8.sl_txt (pv 0) (po_some (pe_op op_add (pv 3) pe_int)) (po_some (pe_op op_add (pv 3) pe_int))) pe_str ⟨rfl, rfl, rfl, rfl⟩))
      (pss_cons (ps_if (pt_not (pt_truth (pv 4) (by intro _; rfl)))
      (pss_one (ps_ret (pe_tup (pa_cons pe_str (pa_cons (pe_op op_add (pv 3) pe_int) (pa_cons (pv 3) pa_nil))))))
      pss_nil)
      (pss_one (ps_aug (i := 3) sc_quotedAt.nd rfl (Or.inl rfl) pe_int ip_add))))
      (pss_one (ps_if (pt_cmpR op_notIn_sign (pv 4) (C8.pe_gc rfl T.g_SIGNS) rfl)
      (pss_one (ps_ret (pe_tup (pa_cons pe_str (pa_cons (pe_op op_add (pv 3) pe_int) (pa_cons (pv 3) pa_nil))))))
      pss_nil)))
      (pss_cons (ps_expr (pe_bm PySem.F.plainAttrs_list PySem.F.slot_list_append PySem.F.type_list_append mt_append (pv 2) (pa_cons (pv 4) pa_nil)))
      (pss_one (ps_aug (i := 3) sc_quotedAt.nd rfl (Or.inl rfl) pe_int ip_add)))))))
      (pss_one (ps_ret (pe_tup (pa_cons pe_str (pa_cons (pe_op op_add (pv 1) pe_int) (pa_cons (pv 3) pa_nil))))))))), ?_⟩

  obtain ⟨l, i, rfl, hl, hi, q⟩ := h
  have hS : ∀ j : Nat, j < l.length → ∀ pos : Nat, True := fun _ _ _ => trivial
  refine ⟨Nat.zero_le _, fun sA nA => ?_⟩
  refine ⟨_, rfl, _, _, rfl, rfl, ?_⟩
  have fin3 : ∀ (w : W3) (H1 : Hp), Same H H1 → w3Post w H Q → ∀ p, H1 p = none → Q (.ref p) (upd H1 p (.tup (w3V w))) := fun w H1 s1 hw p np => hw _ p (same_new s1 np _) upd_same
  refine while_by (fun σ' H' => ∃ (pl : Nat) (acc : List Nat) (v4 : Option V), σ' = [some (.str (S l)), some (.int (i : Int)), some (.ref sA), some (.int (pl : Int)), v4] ∧ Same H H' ∧ H' sA = some (.lst (acc.map fun c => V.str (S [c]))) ∧ acc.length ≤ pl ∧ pl ≤ l.length ∧ qRead i (l.drop pl) pl acc = qRead i (l.drop (i + 1)) (i + 1) []) (fun σ' _ => l.length - (match σ' with | [_, _, _, some (.int z), _] => z.toNat | _ => 0)) ⟨i + 1, [], none, rfl, same_new (Same.refl H) nA _, upd_same, Nat.zero_le _, hi, rfl⟩ ?_ ?_
  · rintro σ' H' ⟨pl, acc, v4, rfl, s1, hA, hac, hpl, e⟩
    refine ⟨_, rfl, _, rfl, _, l.length, rfl, ⟨by rw [S_len]; exact szB (by omega), by rw [S_len]⟩, _, _, rfl, rfl, _, rfl, ?_⟩
    refine ite2 (fun e1 => ?_) (fun e1 => ?_)
    · have e1' : (pl : Int) < (l.length : Int) := of_decide_eq_true e1
      have hj : pl < l.length := by omega
      have gc : l[pl]? = some l[pl] := List.getElem?_eq_getElem hj
      rw [qRead_at i hj] at e
      generalize l[pl] = ch at gc e
      rw [qRead_cons] at e
      rw [← e] at q
      refine ⟨_, rfl, _, rfl, S l, _, ch, rfl, rfl, by rw [S_len]; exact szB (by omega), atI_nat gc, ?_⟩
      -- a quote mark
      refine ⟨_, rfl, rfl, _, rfl, ?_⟩
      refine ite2 (fun e2 => ?_) (fun e2 => ?_)
      · have e2' : ch = 34 := of_decide_eq_true ((eq1 ch 34).symm.trans e2)
        rw [if_pos e2'] at q
        refine ⟨⟨_, rfl⟩, _, rfl, S [], sA, acc.map fun c => S [c], rfl, rfl, .inl (SqL.of (by rw [hA, List.map_map]; rfl)), ones_bound (by omega), _, rfl, _, _, rfl, rfl, sz_3, fun p np => ?_⟩
        rw [join_ones]
        exact fin3 _ H' s1 q p np
      · have e2' : ¬ ch = 34 := fun z => e2 ((eq1 ch 34).trans (decide_eq_true z))
        rw [if_neg e2'] at q e
        refine ⟨fun σ' H2 => ∃ (pl' m : Nat), σ' = [some (.str (S l)), some (.int (i : Int)), some (.ref sA), some (.int (pl' : Int)), some (.str (S [m]))] ∧ H2 = H' ∧ pl ≤ pl' ∧ pl' < l.length ∧ qRead i (l.drop (pl' + 1)) (pl' + 1) (acc ++ [m]) = qRead i (l.drop (i + 1)) (i + 1) [], ?_, ?_⟩
        · refine ⟨_, rfl, rfl, _, rfl, ?_⟩
          have fb : w3Post ("bad quoted", .int ((pl : Int) + 1), pl) H Q → ∀ p, H' p = none → Q (.ref p) (upd H' p (.tup [.str "bad quoted", .int ((pl : Int) + 1), .int (pl : Int)])) := fun hw p np => fin3 _ H' s1 hw p np
          refine ite2 (fun e3 => ?_) (fun e3 => ?_)
          · have e3' : ch = 92 := of_decide_eq_true ((eq1 ch 92).symm.trans e3)
            rw [if_pos e3'] at q e
            refine ⟨_, _, rfl, (Classical.choose_spec T.g_MEANINGS).2, _, rfl, _, rfl, _, _, rfl, rfl, _, rfl, _, rfl, _, _, rfl, rfl, _, rfl, S l, rfl, by rw [S_len]; exact szB (by omega), _, rfl, ?_⟩
            have es : Txt.slice (S l) (some ((pl : Int) + 1)) (some ((pl : Int) + 2)) = S ((l.drop (pl + 1)).take 1) := by
              have z := slice2 (a := l) (show pl + 1 ≤ pl + 2 by omega)
              rw [show pl + 2 - (pl + 1) = 1 by omega] at z
              exact z
            rw [es]
            by_cases hx : pl + 1 < l.length
            · rw [List.drop_eq_getElem_cons hx] at q e ⊢
              generalize l[pl + 1] = e5 at q e
              show tSeq _ _ _ [_, _, _, _, some ((kd_MEANINGS (S [e5])).getD (.str (Str.ofString "")))] H'
              rw [mean_get e5]
              cases hm : mean e5 with
              | none =>
                dsimp only at q
                rw [hm] at q
                refine ⟨_, rfl, false, ⟨Nat.zero_le _, rfl⟩, ?_⟩
                exact ⟨_, rfl, _, _, rfl, rfl, _, rfl, sz_3, fb q⟩
              | some m =>
                dsimp only at e
                rw [hm] at e
                refine ⟨_, rfl, true, ⟨sz_1, rfl⟩, ?_⟩
                exact ⟨_, rfl, _, _, rfl, rfl, pl + 1, m, rfl, rfl, by omega, hx, e⟩
            · rw [List.drop_eq_nil_of_le (show l.length ≤ pl + 1 by omega)] at q ⊢
              show tSeq _ _ _ [_, _, _, _, some ((kd_MEANINGS (S [])).getD (.str (Str.ofString "")))] H'
              rw [mean_nil]
              refine ⟨_, rfl, false, ⟨Nat.zero_le _, rfl⟩, ?_⟩
              exact ⟨_, rfl, _, _, rfl, rfl, _, rfl, sz_3, fb q⟩
          · have e3' : ¬ ch = 92 := fun z => e3 ((eq1 ch 92).trans (decide_eq_true z))
            rw [if_neg e3'] at q e
            refine ⟨_, rfl, ch, _, rfl, rfl, _, rfl, ?_⟩
            by_cases hs : ch ∈ signsL
            · rw [if_pos hs] at e
              rw [show decide (ch ∈ (S signsL).cps.toList) = true from decide_eq_true hs]
              refine iteF ?_
              exact ⟨pl, ch, rfl, rfl, Nat.le_refl _, hj, e⟩
            · rw [if_neg hs] at q
              rw [show decide (ch ∈ (S signsL).cps.toList) = false from decide_eq_false hs]
              refine iteT ?_
              exact ⟨_, rfl, _, _, rfl, rfl, _, rfl, sz_3, fb q⟩
        · rintro σ' H2 ⟨pl', m, rfl, rfl, hp1, hp2, e6⟩
          refine ⟨_, rfl, .inl ⟨rfl, _, .inl (.inl hA)⟩, _, rfl, sA, _, _, rfl, rfl, hA, szL (by rw [List.length_map]; omega), ?_⟩
          refine ⟨_, rfl, _, _, rfl, rfl, ⟨pl' + 1, acc ++ [m], _, rfl, same_upd s1 nA _, ?_, ?_, by omega, e6⟩, ?_⟩
          · rw [upd_same, ones_snoc]
          · rw [List.length_append, List.length_singleton]; omega
          · show l.length - ((pl' : Int) + 1).toNat < l.length - ((pl : Int)).toNat
            omega
    · have e1' : ¬ (pl : Int) < (l.length : Int) := of_decide_eq_false (Bool.eq_false_iff.mpr e1)
      rw [List.drop_eq_nil_of_le (by omega)] at e
      rw [← e] at q
      have epl : pl = l.length := by omega
      refine ⟨_, rfl, _, _, rfl, rfl, _, rfl, sz_3, fun p np => fin3 _ H' s1 q p np⟩
  · rintro σ' H' Q1 Q2 hq ⟨v, hv, x, hx, y, n, e, hn, i1, j1, e1, e2, k, e3, h⟩
    exact ⟨v, hv, x, hx, y, n, e, hn, i1, j1, e1, e2, k, e3, hq _ _ h⟩

end
end Vf

set_option maxRecDepth 100000
set_option maxHeartbeats 4000000
namespace Vf
open PySem PySem.Spec PyProof.Rows L2 SX
section
variable {P : Program} {w : World} {K : PySem.W.Frag} {mg : Str → Option Value} {base : Heap}
theorem ok_wordAt {f : Addr} {fd : FuncData} (F : C8.Def K mg "word_at" s_wordAt f fd) (b : Binds K fd ["line", "at"] []) (T : Tx K w mg) (C_runEnd : C8.Cal P w K mg base 1 "run_end" sp_runEnd []) (C_numberAt : C8.Cal P w K mg base 2 "number_at" sp_numberAt []) (C_quotedAt : C8.Cal P w K mg base 1 "quoted_at" sp_quotedAt []) : C8.Cal P w K mg base 3 "word_at" sp_wordAt [] := by
  refine C8.cal0 F b .nil sc_wordAt (fun vs H Q E h => ?_) (fun cdv A outer s H vs Q E hr h => ?_)
  · obtain ⟨l, i, rfl, _⟩ := h; rfl
  have hu := hu_of hr
  refine ⟨_, (pss_cons (ps_set (i := 2) sc_wordAt.nd rfl (Or.inl rfl) (pe_ix ix_str (pv 0) (pv 1) (fun _ _ => rfl)))
      (pss_cons (ps_if (pt_cmpR op_in_sign (pv 2) (C8.pe_gc rfl T.g_LETTERS) rfl)
      (pss_cons (ps_set (i := 3) sc_wordAt.nd rfl (Or.inl rfl) (C8.pe_c C_runEnd hr (by decide) rfl (pa_cons (pv 0) (pa_cons (pv 1) (pa_cons (C8.pe_gc rfl T.g_LETTERS) pa_nil)))))
      (pss_one (ps_ret (pe_tup (pa_cons pe_str (pa_cons (pe_slice C8.sl_txt (pv 0) (po_some (pv 1)) (po_some (pv 3))) (pa_cons (pv 3) pa_nil)))))))
      pss_nil)
      (pss_cons (ps_if (pt_cmpR op_in_sign (pv 2) (C8.pe_gc rfl T.g_FIGURES) rfl)
      (pss_one (ps_ret (C8.pe_c C_numberAt hr (by decide) rfl (pa_cons (pv 0) (pa_cons (pv 1) pa_nil)))))
      pss_nil)
      (pss_cons (ps_if (pt_cmpR op_eq (pv 2) pe_str (nomark _))
      (pss_one (ps_ret (C8.pe_c C_quotedAt hr (by decide) rfl (pa_cons (pv 0) (pa_cons (pv 1) pa_nil)))))
      pss_nil)
      (pss_cons (ps_if (pt_cmpR op_in_sign (pv 2) pe_str rfl)
      (pss_one (ps_ret (pe_tup (pa_cons pe_str (pa_cons (pv 2) (pa_cons (pe_op op_add (pv 1) pe_int) pa_nil))))))
      pss_nil)
      (pss_one (ps_ret (pe_tup (pa_cons pe_str (pa_cons (pe_op op_add (pv 1) pe_int) (pa_cons (pe_op op_add (pv 1) pe_int) pa_nil))))))))))), ?_⟩

  obtain ⟨l, i, rfl, hl, hi, q⟩ := h
  have gc : l[i]? = some l[i] := List.getElem?_eq_getElem hi
  unfold wAt at q
  rw [gc] at q
  dsimp only at q
  generalize l[i] = ch at gc q
  have fin3 : ∀ (w : W3), w3Post w H Q → ∀ p, H p = none → Q (.ref p) (upd H p (.tup (w3V w))) := fun w hw p np => hw _ p (same_new (Same.refl H) np _) upd_same
  refine ⟨_, rfl, _, rfl, S l, _, ch, rfl, rfl, by rw [S_len]; exact szB (by omega), atI_nat gc, ?_⟩
  refine ⟨_, rfl, ch, S lowL, rfl, rfl, _, rfl, ?_⟩
  by_cases h1 : ch ∈ lowL
  · rw [if_pos h1] at q
    rw [show decide (ch ∈ (S lowL).cps.toList) = true from decide_eq_true h1]
    refine iteT ?_
    refine ⟨_, rfl, _, rfl, l, lowL, i, rfl, hl, ?_⟩
    refine ⟨_, rfl, _, rfl, _, rfl, _, rfl, _, rfl, S l, rfl, by rw [S_len]; exact szB (by omega), ?_⟩
    rw [slice2 (runEnd_ge lowL l i)]
    exact ⟨_, rfl, sz_3, fun p np => fin3 _ q p np⟩
  · rw [if_neg h1] at q
    rw [show decide (ch ∈ (S lowL).cps.toList) = false from decide_eq_false h1]
    refine iteF ?_
    refine ⟨_, rfl, ch, S figL, rfl, rfl, _, rfl, ?_⟩
    by_cases h2 : ch ∈ figL
    · rw [if_pos h2] at q
      rw [show decide (ch ∈ (S figL).cps.toList) = true from decide_eq_true h2]
      refine iteT ?_
      exact ⟨_, rfl, _, rfl, l, i, ch, rfl, hl, gc, h2, q⟩
    · rw [if_neg h2] at q
      rw [show decide (ch ∈ (S figL).cps.toList) = false from decide_eq_false h2]
      refine iteF ?_
      refine ⟨_, rfl, rfl, _, rfl, ?_⟩
      refine ite2 (fun e3 => ?_) (fun e3 => ?_)
      · have h3 : ch = 34 := of_decide_eq_true ((eq1 ch 34).symm.trans e3)
        rw [if_pos h3] at q
        exact ⟨_, rfl, _, rfl, l, i, rfl, hl, hi, q⟩
      · have h3 : ¬ ch = 34 := fun z => e3 ((eq1 ch 34).trans (decide_eq_true z))
        rw [if_neg h3] at q
        refine ⟨_, rfl, ch, S [40, 41], rfl, rfl, _, rfl, ?_⟩
        by_cases h4 : ch = 40 ∨ ch = 41
        · rw [if_pos h4] at q
          rw [show decide (ch ∈ (S [40, 41]).cps.toList) = true from decide_eq_true (by rcases h4 with h | h <;> subst h <;> decide)]
          refine iteT ?_
          exact ⟨_, rfl, _, rfl, _, _, rfl, rfl, sz_3, fun p np => fin3 _ q p np⟩
        · rw [if_neg h4] at q
          rw [show decide (ch ∈ (S [40, 41]).cps.toList) = false from decide_eq_false (fun z => h4 (by
            rcases List.mem_cons.mp (show ch ∈ [40, 41] from z) with h | h
            · exact .inl h
            · exact .inr (List.mem_singleton.mp h)))]
          refine iteF ?_
          exact ⟨_, rfl, _, _, rfl, rfl, _, rfl, _, _, rfl, rfl, sz_3, fun p np => fin3 _ q p np⟩

end
end Vf

set_option maxRecDepth 100000
set_option maxHeartbeats 4000000
namespace Vf
open PySem PySem.Spec PyProof.Rows L2 SX
section
variable {P : Program} {w : World} {K : PySem.W.Frag} {mg : Str → Option Value} {base : Heap}
theorem qRead_gt (a0 : Nat) : ∀ (n : Nat) (r : List Nat) (pl : Nat) (acc : List Nat), r.length ≤ n → pl ≤ (qRead a0 r pl acc).2.2
  | _, [], pl, acc, _ => Nat.le_refl _
  | 0, c :: r, pl, acc, h => absurd h (by simp)
  | n + 1, c :: r, pl, acc, h => by
    rw [qRead_cons]
    by_cases h1 : c = 34
    · rw [if_pos h1]; exact Nat.le_succ _
    · rw [if_neg h1]
      by_cases h2 : c = 92
      · rw [if_pos h2]
        cases r with
        | nil => exact Nat.le_refl _
        | cons e r' =>
          dsimp only
          cases hm : mean e with
          | none => exact Nat.le_refl _
          | some m => exact Nat.le_trans (by omega) (qRead_gt a0 n r' (pl + 2) _ (by simp only [List.length_cons] at h; omega))
      · rw [if_neg h2]
        by_cases h3 : c ∈ signsL
        · rw [if_pos h3]
          exact Nat.le_trans (by omega) (qRead_gt a0 n r (pl + 1) _ (by simp only [List.length_cons] at h; omega))
        · rw [if_neg h3]; exact Nat.le_refl _
theorem numAt_end (l : List Nat) (i : Nat) : (numAt l i).2.2 = runEnd figL l i := by
  unfold numAt
  split
  · rfl
  · split <;> rfl
theorem wAt_gt {l : List Nat} {i c : Nat} (h : l[i]? = some c) : i < (wAt l i).2.2 := by
  unfold wAt
  rw [h]
  dsimp only
  split
  · rename_i h1
    show i < runEnd lowL l i
    rw [← runEnd_step h h1]
    exact runEnd_ge lowL l (i + 1)
  · split
    · rename_i h2
      rw [numAt_end, ← runEnd_step h h2]
      exact runEnd_ge figL l (i + 1)
    · split
      · exact qRead_gt i _ _ (i + 1) [] (Nat.le_refl _)
      · split
        · exact Nat.lt_succ_self _
        · exact Nat.lt_succ_self _
theorem ok_lineWords {f : Addr} {fd : FuncData} (F : C8.Def K mg "line_words" s_lineWords f fd) (b : Binds K fd ["line"] []) (T : Tx K w mg) (C_wordAt : C8.Cal P w K mg base 3 "word_at" sp_wordAt []) : C8.Cal P w K mg base 4 "line_words" sp_lineWords [] := by
  refine C8.cal0 F b .nil sc_lineWords (fun vs H Q E h => ?_) (fun cdv A outer s H vs Q E hr h => ?_)
  · obtain ⟨l, rfl, _⟩ := h; rfl
  have hu := hu_of hr
  refine ⟨_, (pss_cons (ps_set (i := 1) sc_lineWords.nd rfl (Or.inl rfl) (pe_lst pa_nil))
      (pss_cons (ps_set (i := 2) sc_lineWords.nd rfl (Or.inl rfl) pe_int)
      (pss_cons (ps_while PassesOwn.never (pt_cmpR op_lt (pv 2) (pe_callB call_len (by rfl) T.z_len PySem.boot_len (pa_cons (pv 0) pa_nil)) (nomark _))
      (pss_cons (ps_if (pt_cmpR op_eq (pe_ix ix_str (pv 0) (pv 2) (fun _ _ => rfl)) pe_str (nomark _))
      (pss_cons (ps_aug (i := 2) sc_lineWords.nd rfl (Or.inl rfl) pe_int ip_add)
      (pss_one ps_continue))
      pss_nil)
      (pss_cons (ps_asg (C8.pe_c C_wordAt hr (by decide) rfl (pa_cons (pv 0) (pa_cons (pv 2) pa_nil))) (pg_tup (by rfl) (pgs_cons (pg_name (i := 3) sc_lineWords.nd rfl (Or.inl rfl)) (pgs_cons (pg_name (i := 4) sc_lineWords.nd rfl (Or.inl rfl)) (pgs_cons (pg_name (i := 5) sc_lineWords.nd rfl (Or.inl rfl)) pgs_nil)))))
      (pss_cons (ps_expr (pe_bm PySem.F.plainAttrs_list PySem.F.slot_list_append PySem.F.type_list_append mt_append (pv 1) (pa_cons (pe_tup (pa_cons (pv 3) (pa_cons (pv 4) (pa_cons (pe_op op_add (pv 2) pe_int) pa_nil)))) pa_nil)))
      (pss_one (ps_set (i := 2) sc_lineWords.nd rfl (Or.inl rfl) (pe_ifExp (pt_val (pe_bm PySem.F.plainAttrs_str PySem.F.slot_str_startswith PySem.F.type_str_startswith mt_startswith (pv 3) (pa_cons pe_str pa_nil))) (pe_callB call_len (by rfl) T.z_len PySem.boot_len (pa_cons (pv 0) pa_nil)) (pv 5))))))))
      (pss_one (ps_ret (pe_callTy call_tuple_of (by rfl) T.z_tuple (by decide +kernel) (pa_cons (pv 1) pa_nil))))))), ?_⟩

  obtain ⟨l, rfl, hl, q⟩ := h
  refine ⟨Nat.zero_le _, fun sA nA => ?_⟩
  refine while_by (fun σ' H' => ∃ (j : Nat) (as : List Addr) (ws : List W3) (v3 v4 v5 : Option V), σ' = [some (.str (S l)), some (.ref sA), some (.int (j : Int)), v3, v4, v5] ∧ Same H H' ∧ H' sA = some (.lst (as.map V.ref)) ∧ as.length ≤ j ∧ as.length ≤ l.length ∧ Paired (fun a w => H' a = some (.tup (w3V w))) as ws ∧ ∀ r, Lex l j r → Lex l 0 (ws ++ r)) (fun σ' _ => l.length - (match σ' with | [_, _, some (.int z), _, _, _] => z.toNat | _ => 0)) ⟨0, [], [], none, none, none, rfl, same_new (Same.refl H) nA _, upd_same, Nat.zero_le _, Nat.zero_le _, .nil, fun r h => h⟩ ?_ ?_
  · rintro σ' H' ⟨j, as, ws, v3, v4, v5, rfl, s1, hA, ha1, ha2, hP, hL⟩
    refine ⟨_, rfl, _, rfl, _, l.length, rfl, ⟨by rw [S_len]; exact szB (by omega), by rw [S_len]⟩, _, _, rfl, rfl, _, rfl, ?_⟩
    refine ite2 (fun e1 => ?_) (fun e1 => ?_)
    · have e1' : (j : Int) < (l.length : Int) := of_decide_eq_true e1
      have hj : j < l.length := by omega
      have gc : l[j]? = some l[j] := List.getElem?_eq_getElem hj
      generalize l[j] = ch at gc
      refine ⟨_, rfl, _, rfl, S l, _, ch, rfl, rfl, by rw [S_len]; exact szB (by omega), atI_nat gc, rfl, _, rfl, ?_⟩
      refine ite2 (fun e2 => ?_) (fun e2 => ?_)
      · have e2' : ch = 32 := of_decide_eq_true ((eq1 ch 32).symm.trans e2)
        refine ⟨_, rfl, _, _, rfl, rfl, ⟨j + 1, as, ws, v3, v4, v5, rfl, s1, hA, by omega, ha2, hP, fun r hr2 => hL r (.blank (by rw [gc, e2']) hr2)⟩, ?_⟩
        show l.length - ((j : Int) + 1).toNat < l.length - ((j : Int)).toNat
        omega
      · have e2' : ¬ ch = 32 := fun z => e2 ((eq1 ch 32).trans (decide_eq_true z))
        have hgt := wAt_gt gc
        refine ⟨_, rfl, _, rfl, l, j, rfl, hl, hj, fun H2 a s2 hT => ?_⟩
        refine ⟨a, _, rfl, SqT.of hT, rfl, _, _, rfl, _, _, rfl, _, _, rfl, rfl, ?_⟩
        refine ⟨_, rfl, .inl ⟨rfl, _, .inl (.inl (s2 _ _ hA))⟩, _, rfl, _, rfl, _, rfl, _, _, rfl, rfl, sz_3, fun p np => ?_⟩
        have npA : sA ≠ p := ne_of_none (s2 _ _ hA) np
        refine ⟨sA, _, _, rfl, rfl, by rw [upd_ne npA]; exact s2 _ _ hA, szL (by rw [List.length_map]; omega), ?_⟩
        have s3 : Same H (upd (upd H2 p (.tup [.str (wAt l j).1, (wAt l j).2.1, .int ((j : Int) + 1)])) sA (.lst (as.map V.ref ++ [V.ref p]))) := same_upd (same_new (s1.trans s2) np _) nA _
        have hN : ∀ b xs, H' b = some (.tup xs) → (upd (upd H2 p (.tup [.str (wAt l j).1, (wAt l j).2.1, .int ((j : Int) + 1)])) sA (.lst (as.map V.ref ++ [V.ref p]))) b = some (.tup xs) := fun b xs hb => by
          have hb2 := s2 _ _ hb
          rw [upd_ne (ne_of hb2 (s2 _ _ hA) (by intro z; cases z)), upd_ne (ne_of_none hb2 np)]
          exact hb2
        have hP2 : Paired (fun a w => (upd (upd H2 p (.tup [.str (wAt l j).1, (wAt l j).2.1, .int ((j : Int) + 1)])) sA (.lst (as.map V.ref ++ [V.ref p]))) a = some (.tup (w3V w))) (as ++ [p]) (ws ++ [((wAt l j).1, (wAt l j).2.1, j + 1)]) := Paired.snoc (Paired.mapP hP fun a w h => hN a _ h) (by rw [upd_ne npA.symm, upd_same]; rfl)
        have hap : as.map V.ref ++ [V.ref p] = (as ++ [p]).map V.ref := by rw [List.map_append]; rfl
        refine ⟨_, rfl, rfl, _, _, rfl, rfl, _, rfl, ?_⟩
        refine ite2 (fun e4 => ?_) (fun e4 => ?_)
        · have hb : isBad (wAt l j).1 = true := e4
          refine ⟨_, rfl, _, l.length, rfl, ⟨by rw [S_len]; exact szB (by omega), by rw [S_len]⟩, ⟨l.length, as ++ [p], ws ++ [((wAt l j).1, (wAt l j).2.1, j + 1)], _, _, _, rfl, s3, by rw [upd_same, hap], by rw [List.length_append, List.length_singleton]; omega, by rw [List.length_append, List.length_singleton]; omega, hP2, fun r hr2 => ?_⟩, ?_⟩
          · cases hr2 with
            | done _ => rw [List.append_nil]; exact hL _ (.bad gc e2' hb)
            | blank h _ => exact absurd (List.getElem?_eq_some_iff.mp h).1 (Nat.lt_irrefl _)
            | word h _ _ _ => exact absurd (List.getElem?_eq_some_iff.mp h).1 (Nat.lt_irrefl _)
            | bad h _ _ => exact absurd (List.getElem?_eq_some_iff.mp h).1 (Nat.lt_irrefl _)
          · show l.length - ((l.length : Int)).toNat < l.length - ((j : Int)).toNat
            omega
        · have hb : isBad (wAt l j).1 = false := Bool.eq_false_iff.mpr e4
          refine ⟨_, rfl, ⟨(wAt l j).2.2, as ++ [p], ws ++ [((wAt l j).1, (wAt l j).2.1, j + 1)], _, _, _, rfl, s3, by rw [upd_same, hap], by rw [List.length_append, List.length_singleton]; omega, by rw [List.length_append, List.length_singleton]; omega, hP2, fun r hr2 => ?_⟩, ?_⟩
          · rw [List.append_assoc]
            exact hL _ (.word gc e2' hb hr2)
          · show l.length - (((wAt l j).2.2 : Int)).toNat < l.length - ((j : Int)).toNat
            omega
    · have e1' : ¬ (j : Int) < (l.length : Int) := of_decide_eq_false (Bool.eq_false_iff.mpr e1)
      have hw := hL [] (.done (by omega))
      rw [List.append_nil] at hw
      refine ⟨_, rfl, sA, _, rfl, .inl ⟨SqL.of hA, fun t nt => ?_⟩⟩
      refine q _ t as ws (same_new s1 nt _) upd_same (Paired.mapP hP fun a w h => ?_) hw
      rw [upd_ne (ne_of_none h nt)]
      exact h
  · rintro σ' H' Q1 Q2 hq ⟨v, hv, x, hx, y, n, e, hn, i1, j1, e1, e2, k, e3, h⟩
    exact ⟨v, hv, x, hx, y, n, e, hn, i1, j1, e1, e2, k, e3, hq _ _ h⟩

end
end Vf

set_option maxRecDepth 100000
set_option maxHeartbeats 4000000
namespace Vf
open PySem PySem.Spec PyProof.Rows L2 SX
section
variable {P : Program} {w : World} {K : PySem.W.Frag} {mg : Str → Option Value} {base : Heap}
theorem esc_get (e : Nat) : (kd_ESCAPES (S [e])).getD (.str (S [e])) = .str (S (esc1 e)) := by
  have h : ∀ d : Nat, (S [e] = S [d]) ↔ e = d := fun d => ⟨fun z => (List.cons.inj (S_inj z)).1, fun z => by rw [z]⟩
  show (if S [e] = S [34] then some (V.str (S [92, 34])) else if S [e] = S [92] then some (V.str (S [92, 92])) else if S [e] = S [10] then some (V.str (S [92, 110])) else none).getD (.str (S [e])) = _
  unfold esc1
  by_cases h1 : e = 34
  · subst h1; rfl
  · rw [if_neg (fun z => h1 ((h 34).mp z))]
    by_cases h2 : e = 92
    · subst h2; rfl
    · rw [if_neg (fun z => h2 ((h 92).mp z)), if_neg h2, if_neg h1]
      by_cases h3 : e = 10
      · subst h3; rfl
      · rw [if_neg (fun z => h3 ((h 10).mp z)), if_neg h3]; rfl
theorem joinL_nil : ∀ xs : List (List Nat), TL.joinL [] xs = xs.flatten
  | [] => rfl
  | [x] => (List.append_nil x).symm
  | x :: y :: r => by
    show x ++ ([] ++ TL.joinL [] (y :: r)) = _
    rw [joinL_nil (y :: r)]
    rfl
theorem ok_quotedText {f : Addr} {fd : FuncData} (F : C8.Def K mg "quoted_text" s_quotedText f fd) (b : Binds K fd ["word"] []) (T : Tx K w mg)  : C8.Cal P w K mg base 1 "quoted_text" sp_quotedText [] := by
  refine C8.cal0 F b .nil sc_quotedText (fun vs H Q E h => ?_) (fun cdv A outer s H vs Q E hr h => ?_)
  · obtain ⟨w, rfl, _⟩ := h; rfl
  have hu := hu_of hr
  refine ⟨_, (pss_one (ps_ret (pe_op op_add_str (pe_op op_add_str pe_str (pe_join pe_str (pe_lc (own := [("sign", 1)]) (g := (gName 1)) (tt := tYes) rfl sc_quotedText.nd (pi_str (pv 0)) (blkOk_by (N := N_quotedText) (sc := C8.fnScope s_quotedText) (by decide +kernel)) (fun _ _ _ _ _ => pg_name (i := 1) sc_quotedText.nd rfl (Or.inl rfl)) (fun _ _ _ _ _ => pts_nil) (fun _ _ _ _ _ => (pe_kget (K := K) (w := w) rfl rfl (C8.pe_gc rfl (Classical.choose_spec T.g_ESCAPES).1) (pv 1) (pv 1) ⟨rfl, rfl, rfl, rfl⟩))))) pe_str))), ?_⟩

  obtain ⟨t, rfl, hl, q⟩ := h
  have qe := quote_len t
  have he := esc_len t
  refine ⟨⟨_, rfl⟩, _, rfl, S t, rfl, fun D hD => ?_⟩
  refine ⟨fun i m H' => m = t.length - i ∧ i ≤ t.length ∧ Same H H' ∧ H' D = some (.lst ((t.take i).map fun c => V.str (S (esc1 c)))), ⟨t.length, rfl, Nat.zero_le _, same_new (Same.refl H) hD _, upd_same⟩, ?_⟩
  rintro i m H' ⟨rfl, hi, s1, hA⟩
  by_cases hlt : i < t.length
  · refine .inr ⟨hlt, fun H2 => Same H H2 ∧ H2 D = some (.lst ((t.take (i + 1)).map fun c => V.str (S (esc1 c)))), fun H2 ⟨s2, h2⟩ => ⟨t.length - (i + 1), by omega, rfl, hlt, s2, h2⟩, fun x H2 y => ?_⟩
    obtain ⟨rfl, c, hc, rfl⟩ := y
    have hc' : t[i]? = some c := by
      rw [← hc]
      exact (List.getElem?_toArray).symm
    refine ⟨rfl, ?_⟩
    dsimp only [tYes]
    rw [if_pos rfl]
    refine ⟨_, _, rfl, (Classical.choose_spec T.g_ESCAPES).2, _, rfl, _, rfl, _, rfl, ?_⟩
    have e1 : (kd_ESCAPES ⟨#[c]⟩).getD (.str ⟨#[c]⟩) = .str (S (esc1 c)) := esc_get c
    rw [e1]
    refine ⟨_, hA, szL (by rw [List.length_map, List.length_take]; omega), same_upd s1 hD _, ?_⟩
    rw [upd_same, List.take_add_one, hc', List.map_append]
    rfl
  · refine .inl ⟨by show t.toArray.size ≤ i; simp; omega, ?_⟩
    have et : t.take i = t := List.take_of_length_le (by omega)
    rw [et] at hA
    have e2 : Txt.join (S []) (t.map fun c => S (esc1 c)) = S (t.flatMap esc1) := by
      have e3 : (t.map fun c => S (esc1 c)) = (t.map esc1).map S := by rw [List.map_map]; rfl
      rw [e3, join_S, joinL_nil, List.flatMap_def]
    have e4 : ((t.map fun c => S (esc1 c)).map (·.length)).sum = (t.flatMap esc1).length := by
      rw [List.map_map, List.length_flatMap]
      exact congrArg List.sum (List.map_congr_left fun c _ => S_len _)
    refine ⟨S [], D, t.map fun c => S (esc1 c), rfl, rfl, .inl (SqL.of (by rw [hA, List.map_map]; rfl)), ?_, ?_⟩
    · rw [e4]
      show _ + _ * 0 ≤ 16777216
      omega
    · rw [e2]
      refine ⟨S [34], S (t.flatMap esc1), rfl, rfl, by rw [S_len, S_len]; exact szB (by show 1 + _ ≤ 1000000; omega), ?_⟩
      refine ⟨S (34 :: t.flatMap esc1), S [34], by rw [S_cat]; rfl, rfl, by rw [S_len, S_len]; exact szB (by show (t.flatMap esc1).length + 1 + 1 ≤ 1000000; omega), ?_⟩
      rw [S_cat]
      exact q H' s1

end
end Vf

set_option maxRecDepth 100000
set_option maxHeartbeats 4000000
namespace Vf
open PySem PySem.Spec PyProof.Rows L2 SX
section
variable {P : Program} {w : World} {K : PySem.W.Frag} {mg : Str → Option Value} {base : Heap}
theorem ok_rightWord {f : Addr} {fd : FuncData} (F : C8.Def K mg "_law_right_word" s_rightWord f fd) (b : Binds K fd ["_law_pen_here"] []) (T : Tx K w mg) (C_draw : C8.Cal P w K mg base 1 "_law_draw" sp_draw []) (C_anyName : C8.Cal P w K mg base 3 "_law_any_name" sp_anyName []) (C_anyWord : C8.Cal P w K mg base 4 "_law_any_word" sp_anyWord []) (C_quoted : C8.Cal P w K mg base 1 "_law_quoted" sp_quoted []) (C_pick : C8.Cal P w K mg base 2 "_law_pick" sp_pick []) : C8.Cal P w K mg base 5 "_law_right_word" sp_rightWord [] := by
  refine C8.cal0 F b .nil sc_rightWord (fun vs H Q E h => ?_) (fun cdv A outer s H vs Q E hr h => ?_)
  · obtain ⟨p, c, m, rfl, _⟩ := h; rfl
  have hu := hu_of hr
  refine ⟨_, (pss_cons (ps_set (i := 1) sc_rightWord.nd rfl (Or.inl rfl) (C8.pe_c C_draw hr (by decide) rfl (pa_cons (pv 0) (pa_cons pe_int pa_nil))))
      (pss_cons (ps_if (pt_cmpR op_eq (pv 1) pe_int (nomark _))
      (pss_cons (ps_set (i := 2) sc_rightWord.nd rfl (Or.inl rfl) (C8.pe_c C_anyName hr (by decide) rfl (pa_cons (pv 0) pa_nil)))
      (pss_one (ps_ret (pe_tup (pa_cons pe_str (pa_cons (pv 2) (pa_cons (pv 2) pa_nil)))))))
      pss_nil)
      (pss_cons (ps_if (pt_cmpR op_eq (pv 1) pe_int (nomark _))
      (pss_cons (ps_set (i := 3) sc_rightWord.nd rfl (Or.inl rfl) (pe_ifExp (pt_cmpR op_eq (C8.pe_c C_draw hr (by decide) rfl (pa_cons (pv 0) (pa_cons pe_int pa_nil))) pe_int (nomark _)) (C8.pe_c C_draw hr (by decide) rfl (pa_cons (pv 0) (pa_cons pe_int pa_nil))) (pe_op op_add pe_int (pe_op op_mul (C8.pe_c C_draw hr (by decide) rfl (pa_cons (pv 0) (pa_cons pe_int pa_nil))) pe_int))))
      (pss_one (ps_ret (pe_tup (pa_cons pe_str (pa_cons (pv 3) (pa_cons (pe_callTy call_str_int (by rfl) T.z_str (by decide +kernel) (pa_cons (pv 3) pa_nil)) pa_nil)))))))
      pss_nil)
      (pss_cons (ps_if (pt_cmpR op_eq (pv 1) pe_int (nomark _))
      (pss_cons (ps_set (i := 4) sc_rightWord.nd rfl (Or.inl rfl) (C8.pe_c C_anyWord hr (by decide) rfl (pa_cons (pv 0) (pa_cons pe_int (pa_cons pe_int (pa_cons pe_bl pa_nil))))))
      (pss_one (ps_ret (pe_tup (pa_cons pe_str (pa_cons (pv 4) (pa_cons (C8.pe_c C_quoted hr (by decide) rfl (pa_cons (pv 4) pa_nil)) pa_nil)))))))
      pss_nil)
      (pss_cons (ps_set (i := 5) sc_rightWord.nd rfl (Or.inl rfl) (C8.pe_c C_pick hr (by decide) rfl (pa_cons (pv 0) (pa_cons pe_str pa_nil))))
      (pss_one (ps_ret (pe_tup (pa_cons pe_str (pa_cons (pv 5) (pa_cons (pv 5) pa_nil))))))))))), ?_⟩

  obtain ⟨p, c, m, rfl, hp, hm, q⟩ := h
  have fin : ∀ (H1 : Hp) (m1 : Nat) (k : Str) (x : V) (t : List Nat), Ks H H1 → PenAt H1 p c m1 → m1 ≤ m + 20 → GoodW k x t → ∀ a, H1 a = none → Q (.ref a) (upd H1 a (.tup [.str k, x, .str (S t)])) := fun H1 m1 k x t k1 k2 hm1 g a na =>
    q _ _ (k1.new na _) ((k2.new na).mono hm1) ⟨a, k, x, t, rfl, upd_same, g⟩
  refine ⟨_, rfl, p, c, m, 4, rfl, hp, by omega, by decide, by decide, fun H1 r k1 k2 hr1 => ?_⟩
  refine ⟨_, rfl, rfl, _, rfl, ?_⟩
  refine ite2 (fun _ => ?_) (fun _ => ?_)
  · refine ⟨_, rfl, p, c, m + 1, rfl, k2, by omega, fun H2 t j1 j2 l1 l2 ht => ?_⟩
    exact ⟨_, rfl, _, rfl, sz_3, fin H2 _ _ _ _ (k1.trans j1) j2 (by omega) (.name l1 l2 ht)⟩
  · refine ⟨_, rfl, rfl, _, rfl, ?_⟩
    refine ite2 (fun _ => ?_) (fun _ => ?_)
    · refine ⟨_, rfl, p, c, m + 1, 2, rfl, k2, by omega, by decide, by decide, fun H2 r2 j1 j2 hr2 => ?_⟩
      refine ⟨rfl, _, rfl, ?_⟩
      refine ite2 (fun _ => ?_) (fun _ => ?_)
      · refine ⟨_, rfl, p, c, m + 2, 10, rfl, j2, by omega, by decide, by decide, fun H3 r3 i1 i2 hr3 => ?_⟩
        refine ⟨_, rfl, _, rfl, _, rfl, log_small (by omega), ?_⟩
        rw [num_S]
        exact ⟨sz_3, fin H3 _ _ _ _ (k1.trans (j1.trans i1)) i2 (by omega) (.num (by omega))⟩
      · refine ⟨_, rfl, p, c, m + 2, 99999, rfl, j2, by omega, by decide, by decide, fun H3 r3 i1 i2 hr3 => ?_⟩
        refine ⟨_, _, rfl, rfl, .inr ⟨by decide, by decide⟩, _, _, rfl, rfl, ?_⟩
        have e : (1 : Int) + (r3 : Int) * 9999 = ((1 + r3 * 9999 : Nat) : Int) := by omega
        refine ⟨_, rfl, _, rfl, _, rfl, (by rw [e]; exact log_small (by omega)), ?_⟩
        rw [e, num_S]
        exact ⟨sz_3, fin H3 _ _ _ _ (k1.trans (j1.trans i1)) i2 (by omega) (.num (n := 1 + r3 * 9999) (by omega))⟩
    · refine ⟨_, rfl, rfl, _, rfl, ?_⟩
      refine ite2 (fun _ => ?_) (fun _ => ?_)
      · refine ⟨_, rfl, p, c, m + 1, 0, 8, false, rfl, k2, by omega, by decide, by decide, fun H2 t j1 j2 l1 l2 ht => ?_⟩
        refine ⟨_, rfl, _, rfl, t, rfl, by omega, ?_⟩
        exact ⟨sz_3, fin H2 _ _ _ _ (k1.trans j1) j2 (by omega) (.quo l2 ht)⟩
      · refine ⟨_, rfl, p, c, m + 1, _, rfl, k2, by omega, .inl ⟨[40, 41], rfl, by decide, by decide, fun H2 ch j1 j2 hch => ?_⟩⟩
        exact ⟨_, rfl, _, rfl, sz_3, fin H2 _ _ _ _ (k1.trans j1) j2 (by omega) (.bra hch)⟩

end
end Vf

set_option maxRecDepth 100000
set_option maxHeartbeats 4000000
namespace Vf
open PySem PySem.Spec PyProof.Rows L2 SX
section
variable {P : Program} {w : World} {K : PySem.W.Frag} {mg : Str → Option Value} {base : Heap}
theorem ok_wrongWord {f : Addr} {fd : FuncData} (F : C8.Def K mg "_law_wrong_word" s_wrongWord f fd) (b : Binds K fd ["_law_pen_here"] []) (T : Tx K w mg) (C_draw : C8.Cal P w K mg base 1 "_law_draw" sp_draw []) (C_quoted : C8.Cal P w K mg base 1 "_law_quoted" sp_quoted []) (C_anyWord : C8.Cal P w K mg base 4 "_law_any_word" sp_anyWord []) (C_pick : C8.Cal P w K mg base 2 "_law_pick" sp_pick []) : C8.Cal P w K mg base 5 "_law_wrong_word" sp_wrongWord [] := by
  refine C8.cal0 F b .nil sc_wrongWord (fun vs H Q E h => ?_) (fun cdv A outer s H vs Q E hr h => ?_)
  · obtain ⟨p, c, m, rfl, _⟩ := h; rfl
  have hu := hu_of hr
  refine ⟨_, (pss_cons (ps_set (i := 1) sc_wrongWord.nd rfl (Or.inl rfl) (C8.pe_c C_draw hr (by decide) rfl (pa_cons (pv 0) (pa_cons pe_int pa_nil))))
      (C8.pss_cut (ps_set (i := 2) sc_wrongWord.nd rfl (Or.inl rfl) (pe_slice C8.sl_txt (C8.pe_c C_quoted hr (by decide) rfl (pa_cons (C8.pe_c C_anyWord hr (by decide) rfl (pa_cons (pv 0) (pa_cons pe_int (pa_cons pe_int (pa_cons pe_bl pa_nil))))) pa_nil)) po_none (po_some (pe_un un_neg pe_int))))
      (C8.pss_cut (ps_set (i := 3) sc_wrongWord.nd rfl (Or.inl rfl) (pe_op op_add_str pe_str (pe_join pe_str (pe_lc (own := [("_law_k", 4)]) (g := (gName 4)) (tt := tYes) rfl sc_wrongWord.nd (pi_range1 (by rfl) T.z_range (pa_cons (C8.pe_c C_draw hr (by decide) rfl (pa_cons (pv 0) (pa_cons pe_int pa_nil))) pa_nil)) (blkOk_by (N := N_wrongWord) (sc := C8.fnScope s_wrongWord) (by decide +kernel)) (fun _ _ _ _ _ => pg_name (i := 4) sc_wrongWord.nd rfl (Or.inl rfl)) (fun _ _ _ _ _ => pts_nil) (fun _ _ _ _ _ => (C8.pe_c C_pick hr (by decide) rfl (pa_cons (pv 0) (pa_cons pe_str pa_nil))))))))
      (pss_cons (ps_if (pt_cmpR op_eq (pv 1) pe_int (nomark _))
      (pss_one (ps_ret (pe_tup (pa_cons pe_str (pa_cons pe_int (pa_cons (pe_op op_add_str pe_str (pe_callTy call_str_int (by rfl) T.z_str (by decide +kernel) (pa_cons (C8.pe_c C_draw hr (by decide) rfl (pa_cons (pv 0) (pa_cons pe_int pa_nil))) pa_nil))) pa_nil))))))
      pss_nil)
      (pss_cons (ps_if (pt_cmpR op_eq (pv 1) pe_int (nomark _))
      (pss_one (ps_ret (pe_tup (pa_cons pe_str (pa_cons pe_int (pa_cons (pe_op op_add_str (pe_op op_add_str (pe_callTy call_str_int (by rfl) T.z_str (by decide +kernel) (pa_cons (pe_op op_add pe_int (C8.pe_c C_draw hr (by decide) rfl (pa_cons (pv 0) (pa_cons pe_int pa_nil)))) pa_nil)) pe_str) (pe_op op_rep_str pe_str (C8.pe_c C_draw hr (by decide) rfl (pa_cons (pv 0) (pa_cons pe_int pa_nil))))) pa_nil))))))
      pss_nil)
      (pss_cons (ps_if (pt_cmpR op_eq (pv 1) pe_int (nomark _))
      (pss_one (ps_ret (pe_tup (pa_cons pe_str (pa_cons (pe_callB call_len (by rfl) T.z_len PySem.boot_len (pa_cons (pv 2) pa_nil)) (pa_cons (pe_op op_add_str (pe_op op_add_str (pe_op op_add_str (pv 2) pe_str) (C8.pe_c C_pick hr (by decide) rfl (pa_cons (pv 0) (pa_cons pe_str pa_nil)))) pe_str) pa_nil))))))
      pss_nil)
      (pss_cons (ps_if (pt_cmpR op_eq (pv 1) pe_int (nomark _))
      (pss_one (ps_ret (pe_tup (pa_cons pe_str (pa_cons (pe_callB call_len (by rfl) T.z_len PySem.boot_len (pa_cons (pv 2) pa_nil)) (pa_cons (pe_op op_add_str (pe_op op_add_str (pv 2) pe_str) pe_str) pa_nil))))))
      pss_nil)
      (pss_cons (ps_if (pt_cmpR op_eq (pv 1) pe_int (nomark _))
      (pss_one (ps_ret (pe_tup (pa_cons pe_str (pa_cons pe_int (pa_cons (pv 3) pa_nil))))))
      pss_nil)
      (pss_cons (ps_if (pt_cmpR op_eq (pv 1) pe_int (nomark _))
      (pss_one (ps_ret (pe_tup (pa_cons pe_str (pa_cons (pe_callB call_len (by rfl) T.z_len PySem.boot_len (pa_cons (pv 3) pa_nil)) (pa_cons (pe_op op_add_str (pv 3) pe_str) pa_nil))))))
      pss_nil)
      (pss_one (ps_ret (pe_tup (pa_cons pe_str (pa_cons pe_int (pa_cons (C8.pe_c C_pick hr (by decide) rfl (pa_cons (pv 0) (pa_cons (pe_lst (pa_cons pe_str (pa_cons pe_str (pa_cons pe_str (pa_cons pe_str (pa_cons pe_str (pa_cons pe_str (pa_cons pe_str (pa_cons pe_str (pa_cons pe_str (pa_cons pe_str (pa_cons pe_str (pa_cons pe_str (pa_cons pe_str (pa_cons pe_str pa_nil))))))))))))))) pa_nil))) pa_nil))))))))))))))), ?_⟩

  obtain ⟨p, c, m, rfl, hp, hm, q⟩ := h
  have fin : ∀ (H1 : Hp) (m1 : Nat) (k : Str) (x : Int) (t : List Nat), Ks H H1 → PenAt H1 p c m1 → m1 ≤ m + 40 → BadW k x t → ∀ a, H1 a = none → Q (.ref a) (upd H1 a (.tup [.str k, .int x, .str (S t)])) := fun H1 m1 k x t k1 k2 hm1 g a na =>
    q _ a k x t (k1.new na _) ((k2.new na).mono hm1) upd_same g
  refine ⟨_, rfl, p, c, m, 7, rfl, hp, by omega, by decide, by decide, fun H1 r k1 k2 hr1 => ?_⟩
  refine ⟨fun σ' H2 => ∃ w : List Nat, σ' = [some (.ref p), some (.int (r : Int)), some (.str (S (aheadL w))), none, none] ∧ Ks H1 H2 ∧ PenAt H2 p c (m + 12) ∧ w.length ≤ 5 ∧ ∀ c ∈ w, c ∈ signsL, ?_, ?_⟩
  · refine ⟨_, rfl, p, c, m + 1, 0, 5, false, rfl, k2, by omega, by decide, by decide, fun H2 w j1 j2 l1 l2 hw => ?_⟩
    have qe := quote_len w
    refine ⟨w, rfl, by omega, _, rfl, _, rfl, S (quoteL w), rfl, by rw [S_len]; exact szB (by omega), ?_⟩
    have eq2 : Txt.slice (S (aheadL w ++ [34])) none (some (-1)) = S (aheadL w) := butlast_snoc _ _
    have ev : V.str (Txt.slice (S (quoteL w)) none (some (-1))) = .str (S (aheadL w)) := congrArg V.str eq2
    exact ⟨w, congrArg (fun v => [some (V.ref p), some (V.int (r : Int)), some v, none, none]) ev, j1, j2, l2, hw⟩
  rintro σ' H2 ⟨w, rfl, j1, j2, l2, hw⟩
  have la : (aheadL w).length ≤ 11 := by
    have : (quoteL w).length = (aheadL w).length + 1 := by
      show ((34 :: w.flatMap esc1) ++ [34]).length = _
      rw [List.length_append]; rfl
    have := quote_len w
    omega
  -- the plain one
  refine ⟨fun σ' H4 => ∃ u : List Nat, σ' = [some (.ref p), some (.int (r : Int)), some (.str (S (aheadL w))), some (.str (S (34 :: u))), none] ∧ Ks H2 H4 ∧ PenAt H4 p c (m + 20) ∧ u.length ≤ 5 ∧ ∀ c ∈ u, c ∈ [97, 32, 48, 110, 40, 41, 126, 59], ?_, ?_⟩
  · refine ⟨⟨_, rfl⟩, _, rfl, p, c, m + 12, 6, rfl, j2, by omega, by decide, by decide, fun H3 r3 i1 i2 hr3 => ?_⟩
    refine ⟨_, rfl, by omega, by omega, fun D hD => ?_⟩
    rw [show ((r3 : Int)).toNat = r3 from Int.toNat_natCast r3]
    refine lc_pen (m0 := m + 13) (s := 1) (k := 4) (fun v _ => Ones (· ∈ [97, 32, 48, 110, 40, 41, 126, 59]) v) (fun _ _ _ _ h => h) (by show 4 < 5; decide) hD i2 (by omega) (fun i H4 m4 Q4 hi hp4 hm4 hq => ?_) (fun H4 xs e1 e2 e3 e4 e5 => ?_)
    · exact ⟨_, rfl, p, c, m4, _, rfl, hp4, by omega, .inl ⟨[97, 32, 48, 110, 40, 41, 126, 59], rfl, by decide, by decide, fun H5 ch j1 j2 j3 => hq H5 _ j1 j2 ⟨ch, rfl, j3⟩⟩⟩
    obtain ⟨u, rfl, hu2⟩ := ones_of e2
    have et : u.length = r3 := by rw [← e1, List.length_map, List.length_map]
    refine ⟨S [], D, u.map fun c => S [c], rfl, rfl, .inl (SqL.of e3), ones_bound (by omega), ?_⟩
    rw [join_ones]
    refine ⟨S [34], S u, rfl, rfl, by rw [S_len, S_len]; exact szB (by show 1 + _ ≤ 1000000; omega), ?_⟩
    rw [S_cat]
    exact ⟨u, rfl, i1.trans e4, e5.mono (by omega), by omega, hu2⟩
  rintro σ' H4 ⟨u, rfl, j3, e5, hul, hu2⟩
  have k4 : Ks H H4 := k1.trans (j1.trans j3)
  have cat3 : ∀ (a b : List Nat), a.length + b.length ≤ 1000000 → (S a).length + (S b).length ≤ sizeLine := fun a b h => by rw [S_len, S_len]; exact szB h
  -- way 0
  refine ⟨_, rfl, rfl, _, rfl, ?_⟩
  refine ite2 (fun _ => ?_) (fun _ => ?_)
  · refine ⟨_, rfl, p, c, _, 1000, rfl, e5, by omega, by decide, by decide, fun H5 n f1 f2 hn => ?_⟩
    refine ⟨_, rfl, log_small (by omega), ?_⟩
    rw [num_S]
    have ln := TL.numL_len (n := n) (k := 3) (by decide) (by omega)
    refine ⟨S [48], _, rfl, rfl, cat3 _ _ (by show 1 + _ ≤ 1000000; omega), ?_⟩
    rw [S_cat]
    exact ⟨sz_3, fin H5 _ _ _ _ (k4.trans f1) f2 (by omega) (.zero hn)⟩
  refine ⟨_, rfl, rfl, _, rfl, ?_⟩
  refine ite2 (fun _ => ?_) (fun _ => ?_)
  · refine ⟨_, rfl, p, c, _, 9, rfl, e5, by omega, by decide, by decide, fun H5 n f1 f2 hn => ?_⟩
    have e : (1 : Int) + (n : Int) = ((1 + n : Nat) : Int) := by omega
    have ln := TL.numL_len (n := 1 + n) (k := 2) (by decide) (by omega)
    refine ⟨_, _, rfl, rfl, _, rfl, (by rw [e]; exact log_small (by omega)), ?_⟩
    rw [e, num_S]
    refine ⟨S (TL.numL (1 + n)), S [48, 49, 50, 51, 52, 53, 54, 55, 56], rfl, rfl, cat3 _ _ (by show _ + 9 ≤ 1000000; omega), ?_⟩
    rw [S_cat]
    refine ⟨_, rfl, p, c, _, 3, rfl, f2, by omega, by decide, by decide, fun H6 j g1 g2 hj => ?_⟩
    refine ⟨[57], j, rfl, rfl, by omega, by show 1 * j ≤ 1000000; omega, ?_⟩
    refine ⟨_, _, rfl, rfl, cat3 _ _ (by rw [List.length_append, rep_len]; show _ + 9 + j * 1 ≤ 1000000; omega), ?_⟩
    rw [S_cat]
    exact ⟨sz_3, fin H6 _ _ _ _ (k4.trans (f1.trans g1)) g2 (by omega) (.many (by omega) (by omega) hj)⟩
  refine ⟨_, rfl, rfl, _, rfl, ?_⟩
  refine ite2 (fun _ => ?_) (fun _ => ?_)
  · refine ⟨_, rfl, _, (aheadL w).length, rfl, ⟨by rw [S_len]; exact szB (by omega), by rw [S_len]⟩, ?_⟩
    refine ⟨_, rfl, _, S [92], rfl, rfl, cat3 _ _ (by show _ + 1 ≤ 1000000; omega), ?_⟩
    rw [S_cat]
    refine ⟨_, rfl, p, c, _, _, rfl, e5, by omega, .inl ⟨[116, 97, 98, 78, 32, 48, 39, 40], rfl, by decide, by decide, fun H5 ch f1 f2 hch => ?_⟩⟩
    refine ⟨_, _, rfl, rfl, cat3 _ _ (by rw [List.length_append]; show _ + 1 + 1 ≤ 1000000; omega), ?_⟩
    rw [S_cat]
    refine ⟨_, S [110, 34], rfl, rfl, cat3 _ _ (by rw [List.length_append, List.length_append]; show _ + 1 + 1 + 2 ≤ 1000000; omega), ?_⟩
    rw [S_cat]
    have ea : aheadL w ++ [92] ++ [ch] ++ [110, 34] = aheadL w ++ [92, ch, 110, 34] := by simp only [List.append_assoc, List.cons_append, List.nil_append]
    rw [ea]
    exact ⟨sz_3, fin H5 _ _ _ _ (k4.trans f1) f2 (by omega) (.esc l2 hw hch)⟩
  refine ⟨_, rfl, rfl, _, rfl, ?_⟩
  refine ite2 (fun _ => ?_) (fun _ => ?_)
  · refine ⟨_, rfl, _, (aheadL w).length, rfl, ⟨by rw [S_len]; exact szB (by omega), by rw [S_len]⟩, ?_⟩
    refine ⟨_, rfl, _, S [9], rfl, rfl, cat3 _ _ (by show _ + 1 ≤ 1000000; omega), ?_⟩
    rw [S_cat]
    refine ⟨_, S [34], rfl, rfl, cat3 _ _ (by rw [List.length_append]; show _ + 1 + 1 ≤ 1000000; omega), ?_⟩
    rw [S_cat]
    have ea : aheadL w ++ [9] ++ [34] = aheadL w ++ [9, 34] := by simp only [List.append_assoc, List.cons_append, List.nil_append]
    rw [ea]
    exact ⟨sz_3, fin H4 _ _ _ _ k4 e5 (by omega) (.tab l2 hw)⟩
  refine ⟨_, rfl, rfl, _, rfl, ?_⟩
  refine ite2 (fun _ => ?_) (fun _ => ?_)
  · exact ⟨_, rfl, sz_3, fin H4 _ _ _ _ k4 e5 (by omega) (.opn (by omega) hu2)⟩
  refine ⟨_, rfl, rfl, _, rfl, ?_⟩
  refine ite2 (fun _ => ?_) (fun _ => ?_)
  · refine ⟨_, rfl, _, (34 :: u).length, rfl, ⟨by rw [S_len]; exact szB (by show u.length + 1 ≤ 1000000; omega), by rw [S_len]⟩, ?_⟩
    refine ⟨_, rfl, _, S [92], rfl, rfl, cat3 _ _ (by show u.length + 1 + 1 ≤ 1000000; omega), ?_⟩
    rw [S_cat]
    exact ⟨sz_3, fin H4 _ _ _ _ k4 e5 (by omega) (.back (by omega) hu2)⟩
  refine ⟨_, rfl, by show 14 ≤ sizeLine; decide, fun L nL => ?_⟩
  refine ⟨p, c, _, _, rfl, e5.new nL, by omega, .inr ⟨L, _, rfl, upd_same, by show 1 ≤ 14; decide, by show 14 ≤ 1000000; decide, fun H5 v f1 f2 hv => ?_⟩⟩
  have hc : ∃ ch, v = .str (S [ch]) ∧ ch ∈ [65, 90, 59, 95, 45, 39, 126, 61, 44, 9, 92, 91, 93, 96] := by
    have hv' : v ∈ ([65, 90, 59, 95, 45, 39, 126, 61, 44, 9, 92, 91, 93, 96].map fun c => V.str (S [c])) := hv
    obtain ⟨ch, h1, h2⟩ := List.mem_map.mp hv'
    exact ⟨ch, h2.symm, h1⟩
  obtain ⟨ch, rfl, hch⟩ := hc
  exact ⟨sz_3, fin H5 _ _ _ _ ((k4.new nL _).trans f1) f2 (by omega) (.sign hch)⟩

end
end Vf

set_option maxRecDepth 100000
set_option maxHeartbeats 4000000
namespace Vf
open PySem PySem.Spec PyProof.Rows L2 SX
section
variable {P : Program} {w : World} {K : PySem.W.Frag} {mg : Str → Option Value} {base : Heap}
theorem atI_m1 {t : List Nat} {c : Nat} (h : t.getLast? = some c) : atI t (-1) = some c := by
  obtain ⟨r, e⟩ := List.getLast?_eq_some_iff.mp h
  rw [e]
  exact atI_last r c
theorem lastT_eq : ∀ (is : List (Nat × List Nat)) (pv : List Nat), lastT pv is = (is.map (·.2)).getLast?.getD pv
  | [], _ => rfl
  | [(_, t)], _ => rfl
  | (_, t) :: b :: r, pv => by
    show lastT t (b :: r) = _
    rw [lastT_eq (b :: r) t]
    show (b.2 :: r.map (·.2)).getLast?.getD t = (t :: b.2 :: r.map (·.2)).getLast?.getD pv
    rw [List.getLast?_cons_cons]
    rcases List.eq_nil_or_concat (b.2 :: r.map (·.2)) with h | ⟨x, y, h⟩
    · cases h
    · rw [h, List.concat_eq_append, List.getLast?_append]; rfl
theorem ok_lineOfWords {f : Addr} {fd : FuncData} (F : C8.Def K mg "_law_line_of_words" s_lineOfWords f fd) (b : Binds K fd ["_law_pen_here", "_law_words"] []) (T : Tx K w mg) (C_draw : C8.Cal P w K mg base 1 "_law_draw" sp_draw []) : C8.Cal P w K mg base 2 "_law_line_of_words" sp_lineOfWords [] := by
  refine C8.cal0 F b .nil sc_lineOfWords (fun vs H Q E h => ?_) (fun cdv A outer s H vs Q E hr h => ?_)
  · obtain ⟨p, c, lw, m, ts, rfl, _⟩ := h; rfl
  have hu := hu_of hr
  refine ⟨_, (C8.pss_cut (ps_asg (pe_tup (pa_cons pe_str (pa_cons pe_str pa_nil))) (pg_tup (by rfl) (pgs_cons (pg_name (i := 2) sc_lineOfWords.nd rfl (Or.inl rfl)) (pgs_cons (pg_name (i := 3) sc_lineOfWords.nd rfl (Or.inl rfl)) pgs_nil))))
      (pss_cons (ps_par (i := 4) (j := 5) (by rfl) sc_lineOfWords.nd rfl rfl (by decide) rfl rfl (pa_cons (pe_op op_rep_str pe_str (C8.pe_c C_draw hr (by decide) rfl (pa_cons (pv 0) (pa_cons pe_int pa_nil)))) (pa_cons (pe_lst pa_nil) pa_nil)) (by rfl))
      (pss_cons (ps_for PassesOwn.never rfl (pi_range1 (by rfl) T.z_range (pa_cons (pe_callB call_len (by rfl) T.z_len PySem.boot_len (pa_cons (pv 1) pa_nil)) pa_nil)) (pg_name (i := 6) sc_lineOfWords.nd rfl (Or.inl rfl))
      (C8.pss_cut (ps_if (pt_cmpR op_gt (pv 6) pe_int (nomark _))
      (pss_cons (ps_set (i := 7) sc_lineOfWords.nd rfl (Or.inl rfl) pe_int)
      (pss_cons (ps_for PassesOwn.never rfl (pi_tup (pe_tup (pa_cons (pv 2) (pa_cons (pv 3) pa_nil)))) (pg_name (i := 8) sc_lineOfWords.nd rfl (Or.inl rfl))
      (pss_one (ps_if (PW.pt (pw_and (pt_cmpR op_in_sign (pe_ix ix_str (pe_ix ix_list (pv 1) (pe_op op_sub (pv 6) pe_int) (fun _ _ => rfl)) (pe_un un_neg pe_int) (fun _ _ => rfl)) (pv 8) rfl) (pw_and1 (pt_cmpR op_in_sign (pe_ix ix_str (pe_ix ix_list (pv 1) (pv 6) (fun _ _ => rfl)) pe_int (fun _ _ => rfl)) (pv 8) rfl))))
      (pss_one (ps_set (i := 7) sc_lineOfWords.nd rfl (Or.inl rfl) pe_int))
      pss_nil)))
      (pss_one (ps_set (i := 4) sc_lineOfWords.nd rfl (Or.inl rfl) (pe_op op_add_str (pv 4) (pe_op op_rep_str pe_str (pe_callB (call_max2 rfl) (by rfl) T.z_max (by decide +kernel) (pa_cons (pv 7) (pa_cons (C8.pe_c C_draw hr (by decide) rfl (pa_cons (pv 0) (pa_cons pe_int pa_nil))) pa_nil)))))))))
      pss_nil)
      (pss_cons (ps_expr (pe_bm PySem.F.plainAttrs_list PySem.F.slot_list_append PySem.F.type_list_append mt_append (pv 5) (pa_cons (pe_op op_add (pe_callB call_len (by rfl) T.z_len PySem.boot_len (pa_cons (pv 4) pa_nil)) pe_int) pa_nil)))
      (pss_one (ps_set (i := 4) sc_lineOfWords.nd rfl (Or.inl rfl) (pe_op op_add_str (pv 4) (pe_ix ix_list (pv 1) (pv 6) (fun _ _ => rfl))))))))
      (pss_one (ps_ret (pe_tup (pa_cons (pe_op op_add_str (pv 4) (pe_op op_rep_str pe_str (C8.pe_c C_draw hr (by decide) rfl (pa_cons (pv 0) (pa_cons pe_int pa_nil))))) (pa_cons (pv 5) pa_nil)))))))), ?_⟩

  obtain ⟨p, c, lw, m, ts, rfl, hp, hm, hlw, hn, hts, q⟩ := h
  have gt : ∀ i : Nat, i < ts.length → ∃ t, ts[i]? = some t ∧ t ≠ [] ∧ t.length ≤ 30 ∧ (ts.map fun t => V.str (S t))[i]? = some (.str (S t)) := fun i hi =>
    ⟨ts[i], List.getElem?_eq_getElem hi, (hts _ (List.getElem_mem hi)).1, (hts _ (List.getElem_mem hi)).2, by rw [List.getElem?_map, List.getElem?_eq_getElem hi]; rfl⟩
  refine ⟨fun σ' H' => σ' = [some (.ref p), some (.ref lw), some (.str (S lowL)), some (.str (S figL)), none, none, none, none, none] ∧ Ks H H' ∧ PenAt H' p c m, ?_, ?_⟩
  · exact ⟨sz_2, fun z0 nz0 => ⟨z0, _, rfl, SqT.of upd_same, rfl, _, _, rfl, _, _, rfl, rfl, rfl, Ks.new1 nz0 _, hp.new nz0⟩⟩
  rintro σ' Hz ⟨rfl, kz, hpz⟩
  replace hlw := kz.lst hlw
  replace q := fun H2 a cl is e (s : Ks Hz H2) => q H2 a cl is e (kz.trans s)
  clear kz hp
  have hp := hpz
  clear hpz
  refine ⟨_, rfl, p, c, m, 3, rfl, hp, by omega, by decide, by decide, fun H1 g0 k1 k2 hg0 => ?_⟩
  refine ⟨[32], g0, rfl, rfl, by omega, by show 1 * g0 ≤ 1000000; omega, Nat.zero_le _, fun cl ncl => ⟨_, _, rfl, ?_⟩⟩
  have nclp := k2.ne ncl
  have ncl0 : Hz cl = none := k1.free ncl
  refine ⟨_, rfl, _, ts.length, rfl, .inl ⟨_, SqL.of ((k1.new ncl _).lst hlw), by rw [List.length_map]⟩, _, rfl, by omega, by omega, ?_⟩
  rw [show ((ts.length : Int)).toNat = ts.length from Int.toNat_natCast _]
  refine for_range (lo := 0) (n := ts.length) (fun k σ H' => ∃ (is : List (Nat × List Nat)) (g : Nat) (v6 v7 v8 : Option V), σ = [some (.ref p), some (.ref lw), some (.str (S lowL)), some (.str (S figL)), some (.str (S (asm is ++ blanks g))), some (.ref cl), v6, v7, v8] ∧
      Ks Hz H' ∧ PenAt H' p c (m + 1 + k) ∧ H' cl = some (.lst ((cols 0 is).map fun n : Nat => V.int (n : Int))) ∧ is.map (·.2) = ts.take k ∧ Gaps [] is ∧ (asm is).length ≤ 50 * k ∧ (1 ≤ k → g = 0) ∧ g ≤ 3)
    ⟨[], g0, none, none, none, rfl, (k1.new ncl _), k2.new ncl, upd_same, rfl, trivial, Nat.zero_le _, (by omega), by omega⟩ ?_ ?_
  · rintro k σ H2 hk ⟨is, g, v6, v7, v8, rfl, s1, hp2, hcl, hts2, hgap, hlen, hg1, hg2⟩
    obtain ⟨t, ht, tne, tl, hti⟩ := gt k hk
    have hlw2 : H2 lw = some (.lst (ts.map fun t => V.str (S t))) := s1.lst hlw
    have el : is.length = k := by
      have := congrArg List.length hts2
      rw [List.length_map, List.length_take] at this
      omega
    -- the gap
    refine ⟨fun σ' H3 => ∃ (g' : Nat) (v7 v8 : Option V), σ' = [some (.ref p), some (.ref lw), some (.str (S lowL)), some (.str (S figL)), some (.str (S (asm is ++ blanks g'))), some (.ref cl), some (.int ((k : Nat) : Int)), v7, v8] ∧
      Ks Hz H3 ∧ PenAt H3 p c (m + 1 + k + 1) ∧ H3 cl = some (.lst ((cols 0 is).map fun n : Nat => V.int (n : Int))) ∧ (clash (lastT [] is) t → 1 ≤ g') ∧ g' ≤ 3, ?_, ?_⟩
    · have ek : ((0 : Int) + (k : Int)) = (k : Int) := Int.zero_add _
      rw [ek]
      refine ⟨_, rfl, _, _, rfl, rfl, _, rfl, ?_⟩
      refine ite2 (fun e1 => ?_) (fun e1 => ?_)
      · have e1' : (0 : Int) < (k : Int) := of_decide_eq_true e1
        have hk1 : k - 1 < ts.length := by omega
        obtain ⟨u, hu, une, ul, hui⟩ := gt (k - 1) hk1
        obtain ⟨cu, hcu⟩ : ∃ cu, u.getLast? = some cu := ⟨u.getLast une, List.getLast?_eq_some_getLast une⟩
        obtain ⟨ct, rt, et⟩ : ∃ ct rt, t = ct :: rt := by
          cases t with
          | nil => exact absurd rfl tne
          | cons x r => exact ⟨x, r, rfl⟩
        have hct : t[0]? = some ct := by rw [et]; rfl
        have hl : lastT [] is = u := by
          rw [lastT_eq, hts2, List.getLast?_eq_getElem?, List.length_take, Nat.min_eq_left (by omega), List.getElem?_take_of_lt (by omega), hu]
          rfl
        have ce : clash (lastT [] is) t → ((cu ∈ lowL ∧ ct ∈ lowL) ∨ (cu ∈ figL ∧ ct ∈ figL)) := fun ⟨x, y, hx, hy, hz⟩ => by
          rw [hl, hcu] at hx
          rw [et] at hy
          cases hx
          cases hy
          exact hz
        refine ⟨_, rfl, _, rfl, sz_2, fun z1 nz1 => ⟨z1, rfl, ⟨_, SqT.of upd_same⟩, ?_⟩⟩
        refine for_tup (K := K) (a := z1) (xs := [.str (S lowL), .str (S figL)]) (fun i σ H' => ∃ (z : Nat) (v8 : Option V), σ = [some (.ref p), some (.ref lw), some (.str (S lowL)), some (.str (S figL)), some (.str (S (asm is ++ blanks g))), some (.ref cl), some (.int ((k : Nat) : Int)), some (.int (z : Int)), v8] ∧
          H' = upd H2 z1 (.tup [.str (S lowL), .str (S figL)]) ∧ z ≤ 1 ∧ (1 ≤ i → cu ∈ lowL → ct ∈ lowL → z = 1) ∧ (2 ≤ i → cu ∈ figL → ct ∈ figL → z = 1)) ⟨0, v8, rfl, rfl, by omega, by omega, by omega⟩ (fun i σ H' _ ⟨_, _, _, e, _⟩ => by rw [e]; exact SqT.of upd_same) ?_ ?_
        · rintro i x σ H' hi ⟨z, v8', rfl, rfl, hz1, hz2, hz3⟩
          obtain ⟨L, rfl, hL⟩ : ∃ L, x = .str (S L) ∧ ((i = 0 ∧ L = lowL) ∨ (i = 1 ∧ L = figL)) := by
            match i, hi with
            | 0, hi => exact ⟨lowL, (Option.some.inj hi).symm, .inl ⟨rfl, rfl⟩⟩
            | 1, hi => exact ⟨figL, (Option.some.inj hi).symm, .inr ⟨rfl, rfl⟩⟩
            | n + 2, hi => simp at hi
          have hS : SqL K (upd H2 z1 (.tup [.str (S lowL), .str (S figL)])) lw (ts.map fun t => V.str (S t)) := SqL.of (by rw [upd_ne (ne_of_none hlw2 nz1)]; exact hlw2)
          refine ⟨_, rfl, _, rfl, _, _, rfl, rfl, lw, _, _, _, rfl, rfl, hS, at_of (show ((k : Nat) : Int) - 1 = ((k - 1 : Nat) : Int) by omega) hui, _, rfl, S u, _, cu, rfl, rfl, by rw [S_len]; exact szB (by omega), atI_m1 hcu, _, rfl, cu, S L, rfl, rfl, _, rfl, ?_⟩
          by_cases h1 : cu ∈ L
          · rw [show decide (cu ∈ (S L).cps.toList) = true from decide_eq_true h1]
            refine iteT ?_
            refine ⟨_, rfl, _, rfl, lw, _, _, _, rfl, rfl, hS, atI_nat hti, S t, _, ct, rfl, rfl, by rw [S_len]; exact szB (by omega), atI_nat (j := 0) hct, _, rfl, ct, S L, rfl, rfl, _, rfl, ?_⟩
            by_cases h2 : ct ∈ L
            · rw [show decide (ct ∈ (S L).cps.toList) = true from decide_eq_true h2]
              refine iteT ?_
              exact ⟨1, _, rfl, rfl, by omega, fun _ _ _ => rfl, fun _ _ _ => rfl⟩
            · rw [show decide (ct ∈ (S L).cps.toList) = false from decide_eq_false h2]
              refine iteF ?_
              refine ⟨z, _, rfl, rfl, hz1, fun _ a b => ?_, fun _ a b => ?_⟩
              · rcases hL with ⟨e1, e2⟩ | ⟨e1, e2⟩
                · exact absurd (e2 ▸ b) h2
                · exact hz2 (by omega) a b
              · rcases hL with ⟨e1, e2⟩ | ⟨e1, e2⟩
                · omega
                · exact absurd (e2 ▸ b) h2
          · rw [show decide (cu ∈ (S L).cps.toList) = false from decide_eq_false h1]
            refine iteF ?_
            refine ⟨z, _, rfl, rfl, hz1, fun _ a b => ?_, fun _ a b => ?_⟩
            · rcases hL with ⟨e1, e2⟩ | ⟨e1, e2⟩
              · exact absurd (e2 ▸ a) h1
              · exact hz2 (by omega) a b
            · rcases hL with ⟨e1, e2⟩ | ⟨e1, e2⟩
              · omega
              · exact absurd (e2 ▸ a) h1
        · rintro σ H' ⟨z, v8', rfl, rfl, hz1, hz2, hz3⟩
          refine ⟨_, rfl, _, rfl, _, rfl, p, c, _, 3, rfl, hp2.new nz1, by omega, by decide, by decide, fun H4 r j1 j2 hr4 => ?_⟩
          have em : V.int (if ((r : Nat) : Int) > (z : Int) then ((r : Nat) : Int) else (z : Int)) = .int ((max r z : Nat) : Int) := by
            congr 1
            split <;> omega
          refine ⟨_, _, rfl, [32], max r z, rfl, em, by omega, by show 1 * _ ≤ 1000000; omega, _, _, rfl, rfl, by rw [S_len, S_len, List.length_append, blanks_len, rep_len]; exact szB (by show _ + _ * 1 ≤ 1000000; omega), ?_⟩
          rw [S_cat]
          have g0' : g = 0 := hg1 (by omega)
          have eb : asm is ++ blanks g ++ repL (max r z) [32] = asm is ++ blanks (max r z) := by
            rw [g0']
            show asm is ++ [] ++ _ = _
            rw [List.append_nil]
            rfl
          rw [eb]
          refine ⟨max r z, _, _, rfl, (s1.new nz1 _).trans j1, j2.mono (by omega), j1.lst (by rw [upd_ne (ne_of_none hcl nz1)]; exact hcl), fun hc => ?_, by omega⟩
          rcases ce hc with ⟨a, b⟩ | ⟨a, b⟩
          · have := hz2 (by show 1 ≤ 2; decide) a b
            omega
          · have := hz3 (by show 2 ≤ 2; decide) a b
            omega
      · have e1' : ¬ (0 : Int) < (k : Int) := of_decide_eq_false (Bool.eq_false_iff.mpr e1)
        have k0 : k = 0 := by omega
        subst k0
        have is0 : is = [] := List.eq_nil_of_length_eq_zero el
        subst is0
        exact ⟨g, v7, v8, rfl, s1, hp2.mono (by omega), hcl, (fun ⟨c, d, h1, _⟩ => by cases h1), hg2⟩
    · rintro σ' H3 ⟨g', v7', v8', rfl, s2, hp3, hcl3, hcg, hg'⟩
      have npc := hp3
      refine ⟨_, rfl, .inl ⟨rfl, _, .inl (.inl hcl3)⟩, _, rfl, _, (asm is ++ blanks g').length, rfl, ⟨by rw [S_len, List.length_append, blanks_len]; exact szB (by omega), by rw [S_len]⟩, _, _, rfl, rfl, cl, _, _, rfl, rfl, hcl3, szL (by rw [List.length_map, cols_len]; omega), ?_⟩
      refine ⟨_, rfl, _, rfl, _, rfl, lw, _, _, _, rfl, rfl, SqL.of ?_, atI_nat hti, _, _, rfl, rfl, by rw [S_len, S_len, List.length_append, blanks_len]; exact szB (by omega), ?_⟩
      · rw [upd_ne (show lw ≠ cl from ne_of_none hlw ncl0)]
        exact s2.lst hlw
      rw [S_cat]
      refine ⟨is ++ [(g', t)], 0, some (.int ((k : Nat) : Int)), v7', v8', ?_, s2.upd ncl0 _, hp3.upd nclp.1 nclp.2, ?_, ?_, gaps_snoc g' t is [] hgap hcg, ?_, fun _ => rfl, Nat.zero_le _⟩
      · rw [asm_snoc, show blanks 0 = [] from rfl, List.append_nil]
        rfl
      · rw [upd_same, cols_snoc, List.map_append, List.length_append, blanks_len]
        show some (HO.lst (_ ++ [V.int (((asm is).length + g' : Nat) + 1)])) = some (HO.lst (_ ++ [V.int ((0 + (asm is).length + g' + 1 : Nat) : Int)]))
        rw [show ((0 + (asm is).length + g' + 1 : Nat) : Int) = (((asm is).length + g' : Nat) : Int) + 1 by omega]
      · rw [List.map_append, hts2, List.take_add_one, ht]
        rfl
      · rw [asm_snoc, List.length_append, List.length_append, blanks_len]
        omega
  · rintro σ H2 ⟨is, g, v6, v7, v8, rfl, s1, hp2, hcl, hts2, hgap, hlen, hg1, hg2⟩
    rw [List.take_length] at hts2
    refine ⟨_, rfl, _, rfl, p, c, _, 2, rfl, hp2, by omega, by decide, by decide, fun H3 e j1 j2 he => ?_⟩
    refine ⟨[32], e, rfl, rfl, by omega, by show 1 * e ≤ 1000000; omega, _, _, rfl, rfl, by rw [S_len, S_len, List.length_append, blanks_len, rep_len]; exact szB (by show _ + e * 1 ≤ 1000000; omega), ?_⟩
    rw [S_cat]
    refine ⟨_, rfl, sz_2, fun a na => ?_⟩
    have eb : asm is ++ blanks g ++ repL e [32] = asm is ++ blanks (g + e) := by
      rw [List.append_assoc]
      show _ ++ (blanks g ++ blanks e) = _
      rw [blanks_add]
    rw [eb]
    exact q _ a cl is (g + e) ((s1.trans j1).new na _) ((j2.new na).mono (by omega)) upd_same (by rw [upd_ne (ne_of_none (j1.lst hcl) na)]; exact j1.lst hcl) hts2 hgap (by omega) (by omega)

end
end Vf

set_option maxRecDepth 100000
set_option maxHeartbeats 4000000
namespace Vf
open PySem PySem.Spec PyProof.Rows L2 SX
section
variable {P : Program} {w : World} {K : PySem.W.Frag} {mg : Str → Option Value} {base : Heap}
def wOf (i : Nat) : List Nat → W3
  | [] => ("", .non, 0)
  | c :: r =>
    if c ∈ lowL then ("name", .str (S ((c :: r).take ((c :: r).takeWhile (fun c => decide (c ∈ lowL))).length)), i + ((c :: r).takeWhile (fun c => decide (c ∈ lowL))).length)
    else if c ∈ figL then
      (if ((c :: r).takeWhile (fun c => decide (c ∈ figL))).length > 1 ∧ c = 48 then ("bad number", .int ((i : Int) + 2), i + ((c :: r).takeWhile (fun c => decide (c ∈ figL))).length)
       else if ((c :: r).takeWhile (fun c => decide (c ∈ figL))).length > 9 then ("bad number", .int ((i : Int) + 9 + 1), i + ((c :: r).takeWhile (fun c => decide (c ∈ figL))).length)
       else ("number", .int ((NumText.digitsVal ((c :: r).take ((c :: r).takeWhile (fun c => decide (c ∈ figL))).length) : Nat) : Int), i + ((c :: r).takeWhile (fun c => decide (c ∈ figL))).length))
    else if c = 34 then qRead i r (i + 1) []
    else if c = 40 ∨ c = 41 then ("bracket", .str (S [c]), i + 1)
    else ("bad sign", .int ((i : Int) + 1), i + 1)
theorem wOf_cons (i c : Nat) (r : List Nat) : wOf i (c :: r) = ((
    if c ∈ lowL then ("name", V.str (S ((c :: r).take ((c :: r).takeWhile (fun c => decide (c ∈ lowL))).length)), i + ((c :: r).takeWhile (fun c => decide (c ∈ lowL))).length)
    else if c ∈ figL then
      (if ((c :: r).takeWhile (fun c => decide (c ∈ figL))).length > 1 ∧ c = 48 then ("bad number", V.int ((i : Int) + 2), i + ((c :: r).takeWhile (fun c => decide (c ∈ figL))).length)
       else if ((c :: r).takeWhile (fun c => decide (c ∈ figL))).length > 9 then ("bad number", V.int ((i : Int) + 9 + 1), i + ((c :: r).takeWhile (fun c => decide (c ∈ figL))).length)
       else ("number", V.int ((NumText.digitsVal ((c :: r).take ((c :: r).takeWhile (fun c => decide (c ∈ figL))).length) : Nat) : Int), i + ((c :: r).takeWhile (fun c => decide (c ∈ figL))).length))
    else if c = 34 then qRead i r (i + 1) []
    else if c = 40 ∨ c = 41 then ("bracket", V.str (S [c]), i + 1)
    else ("bad sign", V.int ((i : Int) + 1), i + 1) : W3)) := rfl
theorem wAt_of {l r : List Nat} {i : Nat} (h : l.drop i = r) (hne : r ≠ []) : wAt l i = wOf i r := by
  cases r with
  | nil => exact absurd rfl hne
  | cons c r =>
    have hi : i < l.length := by
      have := congrArg List.length h
      rw [List.length_drop] at this
      simp only [List.length_cons] at this
      omega
    have hc : l[i]? = some c := by
      have := congrArg (fun z => z[0]?) h
      rw [List.getElem?_drop] at this
      exact this
    have h1 : l.drop (i + 1) = r := by
      rw [List.drop_eq_getElem_cons hi] at h
      exact (List.cons.inj h).2
    have er : ∀ sg, runEnd sg l i - i = ((c :: r).takeWhile (fun c => decide (c ∈ sg))).length := fun sg => by
      unfold runEnd
      rw [h, Nat.add_sub_cancel_left]
    have er2 : ∀ sg, runEnd sg l i = i + ((c :: r).takeWhile (fun c => decide (c ∈ sg))).length := fun sg => by
      unfold runEnd
      rw [h]
    unfold wAt numAt wOf
    rw [hc, h, h1, er lowL, er figL, er2 lowL, er2 figL]
    simp only [Option.some.injEq]
theorem tw_app {p : Nat → Bool} : ∀ {t s : List Nat}, (∀ c ∈ t, p c = true) → (∀ c, s.head? = some c → p c = false) → (t ++ s).takeWhile p = t
  | [], s, _, h => by
    cases s with
    | nil => rfl
    | cons c r => exact List.takeWhile_cons_of_neg (by rw [h c rfl]; exact Bool.false_ne_true)
  | c :: t, s, h1, h2 => by
    rw [List.cons_append, List.takeWhile_cons_of_pos (h1 c (List.mem_cons_self ..)), tw_app (fun d hd => h1 d (List.mem_cons_of_mem _ hd)) h2]
theorem tw_ge {p : Nat → Bool} {t s : List Nat} (h : ∀ c ∈ t, p c = true) : t.length ≤ ((t ++ s).takeWhile p).length := by
  induction t with
  | nil => exact Nat.zero_le _
  | cons c t ih =>
    rw [List.cons_append, List.takeWhile_cons_of_pos (h c (List.mem_cons_self ..)), List.length_cons, List.length_cons]
    have := ih fun d hd => h d (List.mem_cons_of_mem _ hd)
    omega
theorem low_fig {c : Nat} (h : c ∈ figL) : ¬ c ∈ lowL := (show ∀ c ∈ figL, ¬ c ∈ lowL by decide) c h
theorem fig_of {c : Nat} (h1 : 48 ≤ c) (h2 : c ≤ 57) : c ∈ figL := by
  have : c = 48 ∨ c = 49 ∨ c = 50 ∨ c = 51 ∨ c = 52 ∨ c = 53 ∨ c = 54 ∨ c = 55 ∨ c = 56 ∨ c = 57 := by omega
  rcases this with h | h | h | h | h | h | h | h | h | h <;> subst h <;> decide
theorem numL_fig (n : Nat) : ∀ c ∈ TL.numL n, c ∈ figL := fun c hc => by
  have := TL.numL_digits n c hc
  exact fig_of this.1 this.2
theorem numL_head : ∀ (n : Nat), 1 ≤ n → ∃ c r, TL.numL n = c :: r ∧ 49 ≤ c := fun n => by
  induction n using Nat.strongRecOn with
  | ind n ih =>
    intro h
    by_cases h10 : n < 10
    · exact ⟨48 + n, [], TL.numL_lt h10, by omega⟩
    · obtain ⟨c, r, e, hc⟩ := ih (n / 10) (by omega) (by omega)
      exact ⟨c, r ++ [48 + n % 10], by rw [TL.numL_step (by omega), e]; rfl, hc⟩
theorem qRead_esc (a0 : Nat) : ∀ (w r acc : List Nat) (pl : Nat), (∀ c ∈ w, c ∈ signsL) → qRead a0 (w.flatMap esc1 ++ r) pl acc = qRead a0 r (pl + (w.flatMap esc1).length) (acc ++ w)
  | [], r, acc, pl, _ => by
    show qRead a0 r pl acc = qRead a0 r (pl + 0) (acc ++ [])
    rw [List.append_nil]; rfl
  | c :: w, r, acc, pl, h => by
    have ih := fun pl' acc' => qRead_esc a0 w r acc' pl' fun d hd => h d (List.mem_cons_of_mem _ hd)
    rw [List.flatMap_cons, List.append_assoc]
    have ea : acc ++ c :: w = acc ++ [c] ++ w := by rw [List.append_assoc]; rfl
    by_cases h1 : c = 92
    · subst h1
      show qRead a0 (92 :: 92 :: (w.flatMap esc1 ++ r)) pl acc = qRead a0 r (pl + ([92, 92] ++ w.flatMap esc1).length) _
      rw [qRead_cons, if_neg (by decide), if_pos rfl]
      show qRead a0 (w.flatMap esc1 ++ r) (pl + 2) (acc ++ [92]) = _
      rw [ih, ea, List.length_append]
      congr 1
      show pl + 2 + _ = pl + (2 + _)
      omega
    · by_cases h2 : c = 34
      · subst h2
        show qRead a0 (92 :: 34 :: (w.flatMap esc1 ++ r)) pl acc = qRead a0 r (pl + ([92, 34] ++ w.flatMap esc1).length) _
        rw [qRead_cons, if_neg (by decide), if_pos rfl]
        show qRead a0 (w.flatMap esc1 ++ r) (pl + 2) (acc ++ [34]) = _
        rw [ih, ea, List.length_append]
        congr 1
        show pl + 2 + _ = pl + (2 + _)
        omega
      · by_cases h3 : c = 10
        · subst h3
          show qRead a0 (92 :: 110 :: (w.flatMap esc1 ++ r)) pl acc = qRead a0 r (pl + ([92, 110] ++ w.flatMap esc1).length) _
          rw [qRead_cons, if_neg (by decide), if_pos rfl]
          show qRead a0 (w.flatMap esc1 ++ r) (pl + 2) (acc ++ [10]) = _
          rw [ih, ea, List.length_append]
          congr 1
          show pl + 2 + _ = pl + (2 + _)
          omega
        · have e1 : esc1 c = [c] := by
            unfold esc1
            rw [if_neg h1, if_neg h2, if_neg h3]
          rw [e1]
          show qRead a0 (c :: (w.flatMap esc1 ++ r)) pl acc = qRead a0 r (pl + ([c] ++ w.flatMap esc1).length) _
          rw [qRead_cons, if_neg h2, if_neg h1, if_pos (h c (List.mem_cons_self ..)), ih, ea, List.length_append]
          congr 1
          show pl + 1 + _ = pl + (1 + _)
          omega
/-- plain signs are read as they are -/
theorem qRead_plain (a0 : Nat) : ∀ (u r acc : List Nat) (pl : Nat), (∀ c ∈ u, c ∈ signsL ∧ c ≠ 34 ∧ c ≠ 92) → qRead a0 (u ++ r) pl acc = qRead a0 r (pl + u.length) (acc ++ u)
  | [], r, acc, pl, _ => by
    show qRead a0 r pl acc = qRead a0 r (pl + 0) (acc ++ [])
    rw [List.append_nil]; rfl
  | c :: u, r, acc, pl, h => by
    obtain ⟨h1, h2, h3⟩ := h c (List.mem_cons_self ..)
    have ih := qRead_plain a0 u r (acc ++ [c]) (pl + 1) fun d hd => h d (List.mem_cons_of_mem _ hd)
    rw [List.cons_append, qRead_cons, if_neg h2, if_neg h3, if_pos h1, ih, List.append_assoc, List.length_cons]
    congr 1
    omega
abbrev Wd : Type := Str × V × List Nat
/-- the texts that end a line: nothing but blanks may stand behind -/
def Ends (k : Str) (t : List Nat) : Prop := k = "bad quoted" ∧ ¬ (t.getLast? = some 34 ∧ 1 < t.length)
def Back (k : Str) (t : List Nat) : Prop := k = "bad quoted" ∧ t.getLast? = some 92
theorem good_at {k : Str} {v : V} {t s : List Nat} {i : Nat} (g : GoodW k v t) (h : ¬ clash t s) : wOf i (t ++ s) = (k, v, i + t.length) := by
  cases g with
  | name h1 h2 h3 =>
    obtain ⟨c, r, rfl⟩ : ∃ c r, t = c :: r := by
      cases t with
      | nil => simp at h1
      | cons c r => exact ⟨c, r, rfl⟩
    have htw : ((c :: r) ++ s).takeWhile (fun c => decide (c ∈ lowL)) = c :: r := tw_app (fun d hd => decide_eq_true (h3 d hd)) fun d hd => decide_eq_false fun hl => h ⟨(c :: r).getLast (by simp), d, List.getLast?_eq_some_getLast (by simp), hd, .inl ⟨h3 _ (List.getLast_mem _), hl⟩⟩
    show wOf i (c :: (r ++ s)) = _
    rw [wOf_cons, if_pos (h3 c (List.mem_cons_self ..)), show c :: (r ++ s) = (c :: r) ++ s from rfl, htw, List.take_left]
  | @num n hn =>
    obtain ⟨c, r, e⟩ : ∃ c r, TL.numL n = c :: r := by
      cases e : TL.numL n with
      | nil => exact absurd e (TL.numL_ne n)
      | cons c r => exact ⟨c, r, rfl⟩
    have hf := numL_fig n
    have hl := TL.numL_len (n := n) (k := 9) (by decide) (by omega)
    have hv := TL.numL_val n
    rw [e] at hf hl hv h ⊢
    have htw : ((c :: r) ++ s).takeWhile (fun c => decide (c ∈ figL)) = c :: r := tw_app (fun d hd => decide_eq_true (hf d hd)) fun d hd => decide_eq_false fun hl => h ⟨(c :: r).getLast (by simp), d, List.getLast?_eq_some_getLast (by simp), hd, .inr ⟨hf _ (List.getLast_mem _), hl⟩⟩
    have hc := hf c (List.mem_cons_self ..)
    have hno : ¬ ((c :: r).length > 1 ∧ c = 48) := fun ⟨z1, z2⟩ => by
      by_cases h0 : 1 ≤ n
      · obtain ⟨c', r', e', hc'⟩ := numL_head n h0
        rw [e] at e'
        have := (List.cons.inj e').1
        omega
      · have : n = 0 := by omega
        subst this
        rw [TL.numL_lt (by decide)] at e
        rw [← e] at z1
        simp at z1
    show wOf i (c :: (r ++ s)) = _
    rw [wOf_cons, if_neg (low_fig hc), if_pos hc, show c :: (r ++ s) = (c :: r) ++ s from rfl, htw, if_neg hno, if_neg (by omega), List.take_left, hv]
  | @quo w h1 h2 =>
    show wOf i (34 :: (w.flatMap esc1 ++ [34] ++ s)) = _
    rw [wOf_cons, if_neg (by decide), if_neg (by decide), if_pos rfl, List.append_assoc, qRead_esc i w _ [] (i + 1) h2]
    show qRead i (34 :: s) _ _ = _
    rw [qRead_cons, if_pos rfl]
    have e : i + 1 + (w.flatMap esc1).length + 1 = i + (quoteL w).length := by
      show _ = i + ((w.flatMap esc1 ++ [34]).length + 1)
      rw [List.length_append]
      show _ = i + (_ + 1 + 1)
      omega
    rw [e]
    rfl
  | @bra c hc =>
    show wOf i (c :: s) = _
    have : c = 40 ∨ c = 41 := by
      rcases List.mem_cons.mp hc with h | h
      · exact .inl h
      · exact .inr (List.mem_singleton.mp h)
    rw [wOf_cons, if_neg (by rcases this with h | h <;> subst h <;> decide), if_neg (by rcases this with h | h <;> subst h <;> decide), if_neg (by omega), if_pos this]
    rfl
theorem bad_at {k : Str} {o : Int} {t s : List Nat} {i : Nat} (g : BadW k o t) (h1 : Ends k t → ∀ c ∈ s, c = 32) (h2 : Back k t → s = []) : (wOf i (t ++ s)).1 = k ∧ (wOf i (t ++ s)).2.1 = .int (o + ((i : Int) + 1)) := by
  have q34 : ∀ (u r : List Nat), (∀ c ∈ u, c ∈ signsL ∧ c ≠ 34 ∧ c ≠ 92) → wOf i (34 :: u ++ r) = qRead i r (i + 1 + u.length) u := fun u r h => by
    show wOf i (34 :: (u ++ r)) = _
    rw [wOf_cons, if_neg (by decide), if_neg (by decide), if_pos rfl, qRead_plain i u r [] (i + 1) h]
    rfl
  have pl : ∀ c ∈ [97, 32, 48, 110, 40, 41, 126, 59], c ∈ signsL ∧ c ≠ 34 ∧ c ≠ 92 := by decide
  have ah : ∀ (w r : List Nat), (∀ c ∈ w, c ∈ signsL) → wOf i (aheadL w ++ r) = qRead i r (i + (aheadL w).length) w := fun w r h => by
    show wOf i (34 :: (w.flatMap esc1 ++ r)) = _
    rw [wOf_cons, if_neg (by decide), if_neg (by decide), if_pos rfl, qRead_esc i w r [] (i + 1) h]
    have e : i + 1 + (w.flatMap esc1).length = i + (aheadL w).length := by
      show _ = i + ((w.flatMap esc1).length + 1)
      omega
    rw [e]
    rfl
  cases g with
  | @zero n hn =>
    obtain ⟨c, r, e⟩ : ∃ c r, TL.numL n = c :: r := by
      cases e : TL.numL n with
      | nil => exact absurd e (TL.numL_ne n)
      | cons c r => exact ⟨c, r, rfl⟩
    have hf := numL_fig n
    rw [e] at hf ⊢
    have hg := tw_ge (p := fun c => decide (c ∈ figL)) (t := 48 :: c :: r) (s := s) (fun d hd => decide_eq_true (by
      rcases List.mem_cons.mp hd with h | h
      · subst h; decide
      · exact hf d h))
    simp only [List.length_cons] at hg
    show (wOf i (48 :: (c :: r ++ s))).1 = _ ∧ (wOf i (48 :: (c :: r ++ s))).2.1 = _
    rw [wOf_cons, if_neg (by decide), if_pos (by decide)]
    rw [show 48 :: (c :: r ++ s) = (48 :: c :: r) ++ s from rfl, if_pos ⟨by omega, rfl⟩]
    refine ⟨rfl, ?_⟩
    show V.int ((i : Int) + 2) = .int (1 + ((i : Int) + 1))
    congr 1
    omega
  | @many d j hd1 hd2 hj =>
    have e : TL.numL d = [48 + d] := TL.numL_lt (by omega)
    rw [e]
    have hf : ∀ c ∈ [48 + d] ++ [48, 49, 50, 51, 52, 53, 54, 55, 56] ++ repL j [57], c ∈ figL := fun c hc => by
      rcases List.mem_append.mp hc with hc | hc
      · rcases List.mem_append.mp hc with hc | hc
        · rw [List.mem_singleton.mp hc]
          exact fig_of (by omega) (by omega)
        · exact (show ∀ c ∈ [48, 49, 50, 51, 52, 53, 54, 55, 56], c ∈ figL by decide) c hc
      · have : ∀ n, ∀ c ∈ repL n [57], c = 57 := fun n => by
          induction n with
          | zero => intro c hc; cases hc
          | succ n ih =>
            intro c hc
            rcases List.mem_cons.mp (show c ∈ 57 :: repL n [57] from hc) with h | h
            · exact h
            · exact ih c h
        rw [this j c hc]
        decide
    have hg := tw_ge (p := fun c => decide (c ∈ figL)) (t := [48 + d] ++ [48, 49, 50, 51, 52, 53, 54, 55, 56] ++ repL j [57]) (s := s) (fun d hd => decide_eq_true (hf d hd))
    rw [List.length_append, List.length_append] at hg
    have h9 : ([48 + d] : List Nat).length + [48, 49, 50, 51, 52, 53, 54, 55, 56].length = 10 := rfl
    have hc : 48 + d ∈ figL := fig_of (by omega) (by omega)
    have es : [48 + d] ++ [48, 49, 50, 51, 52, 53, 54, 55, 56] ++ repL j [57] ++ s = (48 + d) :: ([48, 49, 50, 51, 52, 53, 54, 55, 56] ++ repL j [57] ++ s) := rfl
    rw [es] at hg ⊢
    rw [wOf_cons, if_neg (low_fig hc), if_pos hc, if_neg (fun z => by have := z.2; omega), if_pos (by omega)]
    refine ⟨rfl, ?_⟩
    show V.int ((i : Int) + 9 + 1) = .int (9 + ((i : Int) + 1))
    congr 1
    omega
  | @esc w e hw1 hw2 he =>
    have hm : mean e = none := (show ∀ e ∈ [116, 97, 98, 78, 32, 48, 39, 40], mean e = none by decide) e he
    rw [List.append_assoc, ah w _ hw2]
    show (qRead i (92 :: e :: ([110, 34] ++ s)) _ w).1 = _ ∧ _
    have eq := qRead_cons i 92 (e :: ([110, 34] ++ s)) (i + (aheadL w).length) w
    rw [if_neg (by decide), if_pos rfl] at eq
    dsimp only at eq
    rw [hm] at eq
    show (qRead i (92 :: e :: ([110, 34] ++ s)) _ w).1 = _ ∧ (qRead i (92 :: e :: ([110, 34] ++ s)) _ w).2.1 = _
    rw [eq]
    refine ⟨rfl, ?_⟩
    show V.int (((i + (aheadL w).length : Nat) : Int) + 1) = .int ((((aheadL w).length : Nat) : Int) + ((i : Int) + 1))
    congr 1
    omega
  | @tab w hw1 hw2 =>
    rw [List.append_assoc, ah w _ hw2]
    show (qRead i (9 :: ([34] ++ s)) _ w).1 = _ ∧ (qRead i (9 :: ([34] ++ s)) _ w).2.1 = _
    rw [qRead_cons, if_neg (by decide), if_neg (by decide), if_neg (by decide)]
    refine ⟨rfl, ?_⟩
    show V.int (((i + (aheadL w).length : Nat) : Int) + 1) = .int ((((aheadL w).length : Nat) : Int) + ((i : Int) + 1))
    congr 1
    omega
  | @opn u hu1 hu2 =>
    have hu3 : ∀ c ∈ u, c ∈ signsL ∧ c ≠ 34 ∧ c ≠ 92 := fun c hc => pl c (hu2 c hc)
    have he : Ends "bad quoted" (34 :: u) := ⟨rfl, fun ⟨z1, z2⟩ => by
      cases u with
      | nil => simp at z2
      | cons x r =>
        rw [List.getLast?_cons_cons, List.getLast?_eq_some_getLast (by simp)] at z1
        have z3 := hu3 _ (List.getLast_mem (l := x :: r) (by simp))
        exact z3.2.1 (Option.some.inj z1)⟩
    have hs := h1 he
    rw [q34 u s hu3]
    have eb : ∀ c ∈ s, c ∈ signsL ∧ c ≠ 34 ∧ c ≠ 92 := fun c hc => by rw [hs c hc]; decide
    have eq := qRead_plain i s [] u (i + 1 + u.length) eb
    rw [List.append_nil] at eq
    rw [eq]
    refine ⟨rfl, ?_⟩
    show V.int ((i : Int) + 1) = .int (0 + ((i : Int) + 1))
    rw [Int.zero_add]
  | @back u hu1 hu2 =>
    have hu3 : ∀ c ∈ u, c ∈ signsL ∧ c ≠ 34 ∧ c ≠ 92 := fun c hc => pl c (hu2 c hc)
    have hs := h2 ⟨rfl, by rw [List.getLast?_append]; rfl⟩
    subst hs
    rw [List.append_nil, q34 u [92] hu3, qRead_cons, if_neg (by decide), if_pos rfl]
    refine ⟨rfl, ?_⟩
    show V.int (((i + 1 + u.length : Nat) : Int) + 1) = .int (((u.length + 1 : Nat) : Int) + ((i : Int) + 1))
    congr 1
    omega
  | @sign c hc =>
    have z : ∀ c ∈ [65, 90, 59, 95, 45, 39, 126, 61, 44, 9, 92, 91, 93, 96], ¬ c ∈ lowL ∧ ¬ c ∈ figL ∧ ¬ c = 34 ∧ ¬ (c = 40 ∨ c = 41) := by decide
    obtain ⟨z1, z2, z3, z4⟩ := z c hc
    show (wOf i (c :: s)).1 = _ ∧ (wOf i (c :: s)).2.1 = _
    rw [wOf_cons, if_neg z1, if_neg z2, if_neg z3, if_neg z4]
    refine ⟨rfl, ?_⟩
    show V.int ((i : Int) + 1) = .int (0 + ((i : Int) + 1))
    rw [Int.zero_add]
/-! ### the whole line -/
inductive WsP : List Wd → Prop
  | nil : WsP []
  | good {k : Str} {v : V} {t : List Nat} {r : List Wd} (g : GoodW k v t) (h : WsP r) : WsP ((k, v, t) :: r)
  | bad {k : Str} {o : Int} {t : List Nat} {r : List Wd} (g : BadW k o t) (h : Ends k t → r = []) : WsP ((k, .int o, t) :: r)
def dueL : Nat → List Wd → List (Nat × List Nat) → List W3
  | n, w :: ws, (g, t) :: is => if isBad w.1 = true then [(w.1, (match w.2.1 with | .int o => .int (o + ((n + g : Nat) : Int) + 1) | v => v), n + g + 1)] else (w.1, w.2.1, n + g + 1) :: dueL (n + g + t.length) ws is
  | _, _, _ => []
theorem good_kind {k : Str} {v : V} {t : List Nat} (g : GoodW k v t) : isBad k = false := by
  cases g <;> decide +kernel
theorem bad_kind {k : Str} {o : Int} {t : List Nat} (g : BadW k o t) : isBad k = true := by
  cases g <;> decide +kernel
theorem good_ne {k : Str} {v : V} {t : List Nat} (g : GoodW k v t) : t ≠ [] ∧ t.head? ≠ some 32 ∧ t.length ≤ 30 := by
  cases g with
  | name h1 h2 h3 =>
    cases t with
    | nil => simp at h1
    | cons c r =>
      refine ⟨List.cons_ne_nil _ _, fun z => ?_, by omega⟩
      have := h3 c (List.mem_cons_self ..)
      rw [Option.some.inj z] at this
      exact absurd this (by decide)
  | @num n hn =>
    have hl := TL.numL_len (n := n) (k := 9) (by decide) (by omega)
    refine ⟨TL.numL_ne n, fun z => ?_, by omega⟩
    cases e : TL.numL n with
    | nil => exact TL.numL_ne n e
    | cons c r =>
      rw [e] at z
      have := numL_fig n c (by rw [e]; exact List.mem_cons_self ..)
      rw [Option.some.inj z] at this
      exact absurd this (by decide)
  | @quo w h1 h2 =>
    have := quote_len w
    exact ⟨List.cons_ne_nil _ _, (by intro z; cases z), by omega⟩
  | @bra c hc =>
    refine ⟨List.cons_ne_nil _ _, fun z => ?_, by show 1 ≤ 30; decide⟩
    rw [show c = 32 from Option.some.inj z] at hc
    exact absurd hc (by decide)
theorem bad_ne {k : Str} {o : Int} {t : List Nat} (g : BadW k o t) : t ≠ [] ∧ t.head? ≠ some 32 ∧ t.length ≤ 30 := by
  have la : ∀ w : List Nat, (aheadL w).length ≤ 2 * w.length + 1 := fun w => by
    have := esc_len w
    show (w.flatMap esc1).length + 1 ≤ _
    omega
  cases g with
  | @zero n hn =>
    have hl := TL.numL_len (n := n) (k := 9) (by decide) (by omega)
    exact ⟨List.cons_ne_nil _ _, (by intro z; cases z), by show _ + 1 ≤ 30; omega⟩
  | @many d j h1 h2 h3 =>
    rw [TL.numL_lt (show d < 10 by omega)]
    refine ⟨List.cons_ne_nil _ _, fun z => ?_, ?_⟩
    · have : 48 + d = 32 := Option.some.inj z
      omega
    · rw [List.length_append, List.length_append, rep_len]
      show 1 + 9 + j * 1 ≤ 30
      omega
  | @esc w e h1 h2 h3 =>
    have := la w
    refine ⟨List.cons_ne_nil _ _, (by intro z; cases z), ?_⟩
    rw [List.length_append]
    show _ + 4 ≤ 30
    omega
  | @tab w h1 h2 =>
    have := la w
    refine ⟨List.cons_ne_nil _ _, (by intro z; cases z), ?_⟩
    rw [List.length_append]
    show _ + 2 ≤ 30
    omega
  | @opn u h1 h2 => exact ⟨List.cons_ne_nil _ _, (by intro z; cases z), by show u.length + 1 ≤ 30; omega⟩
  | @back u h1 h2 =>
    refine ⟨List.cons_ne_nil _ _, (by intro z; cases z), ?_⟩
    rw [List.length_append]
    show u.length + 1 + 1 ≤ 30
    omega
  | @sign c hc =>
    refine ⟨List.cons_ne_nil _ _, fun z => ?_, by show 1 ≤ 30; decide⟩
    rw [show c = 32 from Option.some.inj z] at hc
    exact absurd hc (by decide)
theorem lex_blanks {l : List Nat} : ∀ (g i : Nat) (r : List Nat) (ws : List W3), l.drop i = blanks g ++ r → Lex l (i + g) ws → Lex l i ws
  | 0, i, r, ws, _, h => h
  | g + 1, i, r, ws, e, h => by
    have e' : l.drop i = 32 :: (blanks g ++ r) := e
    have hi : i < l.length := by
      have := congrArg List.length e'
      rw [List.length_drop] at this
      simp only [List.length_cons] at this
      omega
    have h2 := e'
    rw [List.drop_eq_getElem_cons hi] at h2
    obtain ⟨h3, h4⟩ := List.cons.inj h2
    refine .blank (by rw [List.getElem?_eq_getElem hi, h3]) (lex_blanks g (i + 1) r ws h4 ?_)
    rw [show i + 1 + g = i + (g + 1) by omega]
    exact h
theorem drop_app {l t s : List Nat} {i : Nat} (h : l.drop i = t ++ s) : l.drop (i + t.length) = s := by
  rw [← List.drop_drop, h, List.drop_left]
theorem blanks_mem : ∀ (n : Nat), ∀ c ∈ blanks n, c = 32
  | 0, c, h => by cases h
  | n + 1, c, h => by
    rcases List.mem_cons.mp (show c ∈ 32 :: blanks n from h) with h | h
    · exact h
    · exact blanks_mem n c h
theorem no_clash {t : List Nat} {is : List (Nat × List Nat)} {e : Nat} (hne : ∀ x ∈ is, x.2 ≠ []) (h : Gaps t is) : ¬ clash t (asm is ++ blanks e) := fun hc => by
  have b32 : ∀ s, (32 :: s) = asm is ++ blanks e → False := fun s hs => by
    obtain ⟨c, d, h1, h2, h3⟩ := hc
    rw [← hs] at h2
    have : 32 = d := Option.some.inj h2
    subst this
    rcases h3 with ⟨_, h3⟩ | ⟨_, h3⟩ <;> exact absurd h3 (by decide)
  cases is with
  | nil =>
    cases e with
    | zero =>
      obtain ⟨c, d, h1, h2, h3⟩ := hc
      cases h2
    | succ e => exact b32 (blanks e) rfl
  | cons x r =>
    obtain ⟨g, u⟩ := x
    cases g with
    | zero =>
      have hu : u ≠ [] := hne (0, u) (List.mem_cons_self ..)
      obtain ⟨d0, u', rfl⟩ : ∃ d u', u = d :: u' := by
        cases u with
        | nil => exact absurd rfl hu
        | cons d u' => exact ⟨d, u', rfl⟩
      obtain ⟨c, d, h1, h2, h3⟩ := hc
      have := h.1 ⟨c, d, h1, h2, h3⟩
      omega
    | succ g => exact b32 (blanks g ++ (u ++ asm r) ++ blanks e) rfl
theorem lex_all {l : List Nat} {e : Nat} : ∀ (ws : List Wd) (is : List (Nat × List Nat)) (pv : List Nat) (i : Nat), is.map (·.2) = ws.map (·.2.2) → Gaps pv is → WsP ws → (∀ w ∈ ws, w.2.2 ≠ []) → (∀ w ∈ ws.getLast?, Back w.1 w.2.2 → e = 0) → l.drop i = asm is ++ blanks e → i + (asm is ++ blanks e).length = l.length → Lex l i (dueL i ws is)
  | [], is, pv, i, hm, hg, hw, hn0, hb, hd, hlen => by
    have : is = [] := by
      cases is with
      | nil => rfl
      | cons x r => cases hm
    subst this
    have hd' : l.drop i = blanks e ++ [] := by rw [List.append_nil]; exact hd
    refine lex_blanks e i [] _ hd' (.done ?_)
    have : ([] ++ blanks e : List Nat).length = e := by
      rw [List.nil_append]; exact blanks_len e
    have h2 : i + ([] ++ blanks e : List Nat).length = l.length := hlen
    omega
  | w :: ws, [], pv, i, hm, hg, hw, hn0, hb, hd, hlen => by cases hm
  | w :: ws, (g, t) :: is, pv, i, hm, hg, hw, hn0, hb, hd, hlen => by
    have hm1 : t = w.2.2 := (List.cons.inj hm).1
    have hm2 : is.map (·.2) = ws.map (·.2.2) := (List.cons.inj hm).2
    have hd1 : l.drop i = blanks g ++ (t ++ (asm is ++ blanks e)) := by
      rw [hd]
      show blanks g ++ (t ++ asm is) ++ blanks e = _
      simp only [List.append_assoc]
    have hd2 := drop_app hd1
    rw [blanks_len] at hd2
    refine lex_blanks g i _ _ hd1 ?_
    have key : ∀ (hn : t ≠ []) (h32 : t.head? ≠ some 32), ∃ c, l[i + g]? = some c ∧ c ≠ 32 ∧ wAt l (i + g) = wOf (i + g) (t ++ (asm is ++ blanks e)) := fun hn h32 => by
      cases t with
      | nil => exact absurd rfl hn
      | cons c t' =>
        refine ⟨c, ?_, fun z => h32 (by rw [z]; rfl), wAt_of hd2 (by simp)⟩
        have h5 := congrArg (fun z => z[0]?) hd2
        rw [List.getElem?_drop] at h5
        exact h5
    cases hw with
    | @good k v t0 r gw hr =>
      have ht : t = t0 := hm1
      subst ht
      obtain ⟨n1, n2, n3⟩ := good_ne gw
      obtain ⟨c, hc1, hc2, hc3⟩ := key n1 n2
      have hne : ∀ x ∈ is, x.2 ≠ [] := fun x hx => by
        have hx2 : x.2 ∈ ws.map (·.2.2) := by rw [← hm2]; exact List.mem_map_of_mem hx
        obtain ⟨y, hy, ey⟩ := List.mem_map.mp hx2
        rw [← ey]
        exact hn0 y (List.mem_cons_of_mem _ hy)
      rw [good_at gw (no_clash hne hg.2)] at hc3
      have hk := good_kind gw
      show Lex l (i + g) (if isBad k = true then _ else (k, v, i + g + 1) :: dueL (i + g + t.length) ws is)
      rw [if_neg (by rw [hk]; exact Bool.false_ne_true)]
      have hx := Lex.word (ws := dueL (i + g + t.length) ws is) hc1 hc2 (by rw [hc3]; exact hk) (by
        rw [hc3]
        refine lex_all ws is t (i + g + t.length) hm2 hg.2 hr (fun w6 hw6 => hn0 w6 (List.mem_cons_of_mem _ hw6)) (fun w5 hw5 hb5 => hb w5 ?_ hb5) (drop_app hd2) ?_
        · cases ws with
          | nil => cases hw5
          | cons a b => rw [List.getLast?_cons_cons]; exact hw5
        · rw [← hlen]
          show i + g + t.length + (asm is ++ blanks e).length = i + (blanks g ++ (t ++ asm is) ++ blanks e).length
          simp only [List.length_append, blanks_len]
          omega)
      rw [hc3] at hx
      exact hx
    | @bad k o t0 r gw hr =>
      have ht : t = t0 := hm1
      subst ht
      obtain ⟨n1, n2, n3⟩ := bad_ne gw
      obtain ⟨c, hc1, hc2, hc3⟩ := key n1 n2
      have hk := bad_kind gw
      have is0 : ws = [] → is = [] := fun z => by
        subst z
        cases is with
        | nil => rfl
        | cons x r => cases hm2
      obtain ⟨b1, b2⟩ := bad_at (i := i + g) (s := asm is ++ blanks e) gw (fun he d hd5 => by
        rw [is0 (hr he)] at hd5
        exact blanks_mem e d hd5) (fun hbk => by
        have he : Ends k t := ⟨hbk.1, fun ⟨z1, _⟩ => by rw [hbk.2] at z1; cases z1⟩
        have w0 := hr he
        rw [is0 w0, hb (k, .int o, t) (by rw [w0]; rfl) hbk]
        rfl)
      rw [← hc3] at b1 b2
      show Lex l (i + g) (if isBad k = true then [(k, .int (o + ((i + g : Nat) : Int) + 1), i + g + 1)] else _)
      rw [if_pos hk]
      have hx := Lex.bad hc1 hc2 (by rw [b1]; exact hk)
      rw [b1, b2, ← Int.add_assoc] at hx
      exact hx
theorem lex_det {l : List Nat} : ∀ {i : Nat} {a b : List W3}, Lex l i a → Lex l i b → a = b := fun {i a b} h => by
  induction h generalizing b with
  | done h =>
    intro h2
    cases h2 with
    | done _ => rfl
    | blank h3 _ => exact absurd (List.getElem?_eq_some_iff.mp h3).1 (by omega)
    | word h3 _ _ _ => exact absurd (List.getElem?_eq_some_iff.mp h3).1 (by omega)
    | bad h3 _ _ => exact absurd (List.getElem?_eq_some_iff.mp h3).1 (by omega)
  | blank h _ ih =>
    intro h2
    cases h2 with
    | done h3 => exact absurd (List.getElem?_eq_some_iff.mp h).1 (by omega)
    | blank _ r => exact ih r
    | word h3 n _ _ => rw [h] at h3; exact absurd (Option.some.inj h3).symm n
    | bad h3 n _ => rw [h] at h3; exact absurd (Option.some.inj h3).symm n
  | word h n b1 _ ih =>
    intro h2
    cases h2 with
    | done h3 => exact absurd (List.getElem?_eq_some_iff.mp h).1 (by omega)
    | blank h3 r => rw [h] at h3; exact absurd (Option.some.inj h3) n
    | word h3 _ _ r => rw [ih r]
    | bad h3 _ b2 => rw [b1] at b2; cases b2
  | bad h n b1 =>
    intro h2
    cases h2 with
    | done h3 => exact absurd (List.getElem?_eq_some_iff.mp h).1 (by omega)
    | blank h3 r => rw [h] at h3; exact absurd (Option.some.inj h3) n
    | word h3 _ b2 r => rw [b1] at b2; cases b2
    | bad h3 _ _ => rfl
/-! ### the words as they stand in the heap -/
def wv (w : Wd) : List V := [.str w.1, w.2.1, .str (S w.2.2)]
def WOk (w : Wd) : Prop := GoodW w.1 w.2.1 w.2.2 ∨ ∃ o : Int, w.2.1 = .int o ∧ BadW w.1 o w.2.2
def AwAt (H : Hp) (aw : List (Addr × Wd)) : Prop := ∀ p ∈ aw, H p.1 = some (.tup (wv p.2))
theorem AwAt.tk {H H' : Hp} {aw : List (Addr × Wd)} (h : AwAt H aw) (s : Tk H H') : AwAt H' aw := fun p hp => s _ _ (h p hp)
theorem rw_aw {H : Hp} : ∀ {xs : List V}, (∀ v ∈ xs, RW v H) → ∃ aw : List (Addr × Wd), xs = aw.map (fun p => V.ref p.1) ∧ AwAt H aw ∧ ∀ p ∈ aw, GoodW p.2.1 p.2.2.1 p.2.2.2
  | [], _ => ⟨[], rfl, (fun _ h => nomatch h), (fun _ h => nomatch h)⟩
  | v :: xs, h => by
    obtain ⟨aw, e, h1, h2⟩ := rw_aw (xs := xs) fun u hu => h u (List.mem_cons_of_mem _ hu)
    obtain ⟨a, k, x, t, e1, e2, g⟩ := h v (List.mem_cons_self ..)
    refine ⟨(a, (k, x, t)) :: aw, by rw [e1, e]; rfl, fun p hp => ?_, fun p hp => ?_⟩
    · rcases List.mem_cons.mp hp with hp | hp
      · rw [hp]; exact e2
      · exact h1 p hp
    · rcases List.mem_cons.mp hp with hp | hp
      · rw [hp]; exact g
      · exact h2 p hp
theorem wsp_good : ∀ {a r : List Wd}, (∀ w ∈ a, GoodW w.1 w.2.1 w.2.2) → WsP r → WsP (a ++ r)
  | [], r, _, h => h
  | (k, v, t) :: a, r, h, hr => .good (h (k, v, t) (List.mem_cons_self ..)) (wsp_good (fun w hw => h w (List.mem_cons_of_mem _ hw)) hr)
theorem cut_to (xs : List V) (n : Nat) : cutV xs none (some (n : Int)) = xs.take n := by
  unfold cutV
  rw [HT.sIx_nat, HT.sIx_none]
  show (xs.take (min n xs.length - 0)) = _
  rw [Nat.sub_zero]
  by_cases h : n ≤ xs.length
  · rw [Nat.min_eq_left h]
  · rw [Nat.min_eq_right (by omega), List.take_of_length_le (Nat.le_refl _), List.take_of_length_le (by omega)]
theorem cut_from (xs : List V) (n : Nat) : cutV xs (some (n : Int)) none = xs.drop n := by
  unfold cutV
  rw [HT.sIx_nat, HT.sIx_none]
  by_cases h : n ≤ xs.length
  · rw [Nat.min_eq_left h, List.take_of_length_le (by rw [List.length_drop]; omega)]
  · rw [Nat.min_eq_right (by omega), List.drop_eq_nil_of_le (Nat.le_refl _), List.drop_eq_nil_of_le (by omega), List.take_nil]
theorem wok_ne {w : Wd} (h : WOk w) : w.2.2 ≠ [] ∧ w.2.2.length ≤ 30 := by
  rcases h with h | ⟨o, _, h⟩
  · exact ⟨(good_ne h).1, (good_ne h).2.2⟩
  · exact ⟨(bad_ne h).1, (bad_ne h).2.2⟩
theorem in_good {k : Str} {v : V} {t : List Nat} (g : GoodW k v t) : inV (.str k) [.str "bad number", .str "bad quoted", .str "bad sign"] = false := by
  cases g <;> decide +kernel
theorem in_bad {k : Str} {o : Int} {t : List Nat} (g : BadW k o t) : inV (.str k) [.str "bad number", .str "bad quoted", .str "bad sign"] = true := by
  cases g <;> decide +kernel
def DwAt (H : Hp) (dw : List (Addr × W3)) : Prop := ∀ x ∈ dw, H x.1 = some (.tup (w3V x.2))
theorem dueL_good {n g : Nat} {k : Str} {v : V} {t u : List Nat} {ws : List Wd} {is : List (Nat × List Nat)} (h : isBad k = false) : dueL n ((k, v, u) :: ws) ((g, t) :: is) = (k, v, n + g + 1) :: dueL (n + g + t.length) ws is := by
  show (if isBad k = true then _ else _) = _
  rw [if_neg (by rw [h]; exact Bool.false_ne_true)]
theorem dueL_bad {n g : Nat} {k : Str} {o : Int} {t u : List Nat} {ws : List Wd} {is : List (Nat × List Nat)} (h : isBad k = true) : dueL n ((k, .int o, u) :: ws) ((g, t) :: is) = [(k, .int (o + ((n + g : Nat) : Int) + 1), n + g + 1)] := by
  show (if isBad k = true then _ else _) = _
  rw [if_pos h]
theorem quo_at {w s : List Nat} {i : Nat} (h2 : ∀ c ∈ w, c ∈ signsL) : wOf i (quoteL w ++ s) = (("quoted", V.str (S w), i + (quoteL w).length) : W3) := by
  show wOf i (34 :: (w.flatMap esc1 ++ [34] ++ s)) = _
  rw [wOf_cons, if_neg (by decide), if_neg (by decide), if_pos rfl, List.append_assoc, qRead_esc i w _ [] (i + 1) h2]
  show qRead i (34 :: s) _ _ = _
  rw [qRead_cons, if_pos rfl]
  have e : i + 1 + (w.flatMap esc1).length + 1 = i + (quoteL w).length := by
    show _ = i + ((w.flatMap esc1 ++ [34]).length + 1)
    rw [List.length_append]
    show _ = i + (_ + 1 + 1)
    omega
  rw [e]
  rfl
theorem lex_quoted {w : List Nat} (h : ∀ c ∈ w, c ∈ signsL) : Lex (quoteL w) 0 [("quoted", .str (S w), 1)] := by
  have e : wAt (quoteL w) 0 = (("quoted", V.str (S w), 0 + (quoteL w).length) : W3) := by
    have z := quo_at (s := []) (i := 0) h
    rw [List.append_nil] at z
    rw [← z]
    exact wAt_of rfl (List.cons_ne_nil _ _)
  have hx := Lex.word (l := quoteL w) (i := 0) (c := 34) (ws := []) rfl (by decide) (by rw [e]; show isBad "quoted" = false; decide +kernel) (by rw [e]; exact .done (by show _ ≤ 0 + _; omega))
  rw [e] at hx
  exact hx
/-! ### data -/
def vD : V → PyData
  | .int i => .int i
  | .str x => .str x
  | _ => .none
def VFine (v : V) : Prop := (∃ i, v = .int i) ∨ ∃ l : List Nat, v = .str (S l) ∧ ∀ c ∈ l, c < 1000
theorem strOk_S {l : List Nat} (h : ∀ c ∈ l, c < 1000) : PyData.strOk (S l) = true := by
  unfold PyData.strOk
  show l.toArray.all _ = true
  rw [List.all_toArray]
  exact List.all_eq_true.mpr fun c hc => decide_eq_true (by have := h c hc; omega)
theorem vfine_dp {K : PySem.W.Frag} {H : Hp} {v : V} (h : VFine v) : Dp K H v (vD v) := by
  rcases h with ⟨i, rfl⟩ | ⟨l, rfl, _⟩
  · exact .int i
  · exact .str _
theorem vfine_lay {v : V} (h : VFine v) : (vD v).canLay0 = true ∧ (vD v).depth = 0 := by
  rcases h with ⟨i, rfl⟩ | ⟨l, rfl, h⟩
  · exact ⟨rfl, rfl⟩
  · exact ⟨strOk_S h, rfl⟩
def tD (k : Str) (v : V) (z : PyData) : PyData := .tuple [.str k, vD v, z]
theorem tD_lay {k : Str} {v : V} {z : PyData} (h1 : PyData.strOk k = true) (h2 : VFine v) (h3 : z.canLay0 = true) (h4 : z.depth = 0) : (tD k v z).canLay0 = true ∧ (tD k v z).depth ≤ 1 := by
  obtain ⟨h5, h6⟩ := vfine_lay h2
  refine ⟨?_, ?_⟩
  · show ((PyData.str k).canLay0 && ((vD v).canLay0 && (z.canLay0 && true))) = true
    rw [h5, h3]
    show (PyData.strOk k && (true && (true && true))) = true
    rw [h1]
    rfl
  · show max 0 (max (vD v).depth (max z.depth 0)) + 1 ≤ 1
    rw [h6, h4]
    decide
theorem list_shaped : ∀ {ds : List PyData}, (∀ d ∈ ds, d.canLay0 = true ∧ d.depth ≤ 1) → PyData.canLayAll0 ds = true ∧ PyData.depthAll ds ≤ 1
  | [], _ => ⟨rfl, Nat.zero_le _⟩
  | d :: ds, h => by
    obtain ⟨h1, h2⟩ := list_shaped fun x hx => h x (List.mem_cons_of_mem _ hx)
    obtain ⟨h3, h4⟩ := h d (List.mem_cons_self ..)
    refine ⟨?_, ?_⟩
    · show (d.canLay0 && PyData.canLayAll0 ds) = true
      rw [h3, h1]; rfl
    · show max d.depth (PyData.depthAll ds) ≤ 1
      omega
theorem shaped_list {ds : List PyData} (h : ∀ d ∈ ds, d.canLay0 = true ∧ d.depth ≤ 1) : SeqAt.shaped (.list ds) = true := by
  obtain ⟨h1, h2⟩ := list_shaped h
  show (PyData.canLayAll0 ds && decide (PyData.depthAll ds + 1 ≤ 64)) = true
  rw [h1, decide_eq_true (by omega)]
  rfl
theorem shaped_tuple {ds : List PyData} (h : ∀ d ∈ ds, d.canLay0 = true ∧ d.depth ≤ 1) : SeqAt.shaped (.tuple ds) = true := by
  obtain ⟨h1, h2⟩ := list_shaped h
  show (PyData.canLayAll0 ds && decide (PyData.depthAll ds + 1 ≤ 64)) = true
  rw [h1, decide_eq_true (by omega)]
  rfl
def w3D (w : W3) : PyData := tD w.1 w.2.1 (.int (w.2.2 : Int))
def W3Fine (w : W3) : Prop := PyData.strOk w.1 = true ∧ VFine w.2.1
theorem w3D_lay {w : W3} (h : W3Fine w) : (w3D w).canLay0 = true ∧ (w3D w).depth ≤ 1 := tD_lay h.1 h.2 rfl rfl
theorem w3_dp {K : PySem.W.Frag} {H : Hp} {a : Addr} {w : W3} (h : H a = some (.tup (w3V w))) (hf : W3Fine w) : Dp K H (.ref a) (w3D w) :=
  .tup (SqT.of h) (.cons (.str _) (.cons (vfine_dp hf.2) (.cons (.int _) .nil)))
theorem w3s_dp {K : PySem.W.Frag} {H : Hp} : ∀ {as : List Addr} {ws : List W3}, Paired (fun a w => H a = some (.tup (w3V w))) as ws → (∀ w ∈ ws, W3Fine w) → DpAll K H (as.map V.ref) (ws.map w3D)
  | _, _, .nil, _ => .nil
  | _, _, .cons h t, hf => .cons (w3_dp h (hf _ (List.mem_cons_self ..))) (w3s_dp t fun w hw => hf w (List.mem_cons_of_mem _ hw))
theorem dw_dp {K : PySem.W.Frag} {H : Hp} : ∀ {dw : List (Addr × W3)}, DwAt H dw → (∀ x ∈ dw, W3Fine x.2) → DpAll K H (dw.map fun x => V.ref x.1) ((dw.map (·.2)).map w3D)
  | [], _, _ => .nil
  | x :: dw, h, hf => .cons (w3_dp (h x (List.mem_cons_self ..)) (hf x (List.mem_cons_self ..))) (dw_dp (fun y hy => h y (List.mem_cons_of_mem _ hy)) fun y hy => hf y (List.mem_cons_of_mem _ hy))
def wD (w : Wd) : PyData := tD w.1 w.2.1 (.str (S w.2.2))
def WdFine (w : Wd) : Prop := PyData.strOk w.1 = true ∧ VFine w.2.1 ∧ ∀ c ∈ w.2.2, c < 1000
theorem wD_lay {w : Wd} (h : WdFine w) : (wD w).canLay0 = true ∧ (wD w).depth ≤ 1 := tD_lay h.1 h.2.1 (strOk_S h.2.2) rfl
theorem aw_dp {K : PySem.W.Frag} {H : Hp} : ∀ {aw : List (Addr × Wd)}, AwAt H aw → (∀ x ∈ aw, WdFine x.2) → DpAll K H (aw.map fun x => V.ref x.1) (aw.map fun x => wD x.2)
  | [], _, _ => .nil
  | x :: aw, h, hf => .cons (.tup (SqT.of (h x (List.mem_cons_self ..))) (.cons (.str _) (.cons (vfine_dp (hf x (List.mem_cons_self ..)).2.1) (.cons (.str _) .nil)))) (aw_dp (fun y hy => h y (List.mem_cons_of_mem _ hy)) fun y hy => hf y (List.mem_cons_of_mem _ hy))
theorem esc_lt {w : List Nat} (h : ∀ c ∈ w, c < 1000) : ∀ c ∈ w.flatMap esc1, c < 1000 := fun c hc => by
  obtain ⟨d, hd, hcd⟩ := List.mem_flatMap.mp hc
  have := h d hd
  unfold esc1 at hcd
  split at hcd
  · exact (show ∀ c ∈ [92, 92], c < 1000 by decide) c hcd
  · split at hcd
    · exact (show ∀ c ∈ [92, 34], c < 1000 by decide) c hcd
    · split at hcd
      · exact (show ∀ c ∈ [92, 110], c < 1000 by decide) c hcd
      · rw [List.mem_singleton.mp hcd]; exact this
theorem signs_lt {w : List Nat} (h : ∀ c ∈ w, c ∈ signsL) : ∀ c ∈ w, c < 1000 := fun c hc => (show ∀ c ∈ signsL, c < 1000 by decide) c (h c hc)
theorem app_lt {a b : List Nat} (h1 : ∀ c ∈ a, c < 1000) (h2 : ∀ c ∈ b, c < 1000) : ∀ c ∈ a ++ b, c < 1000 := fun c hc => by
  rcases List.mem_append.mp hc with h | h
  · exact h1 c h
  · exact h2 c h
theorem cons_lt {x : Nat} {b : List Nat} (h1 : x < 1000) (h2 : ∀ c ∈ b, c < 1000) : ∀ c ∈ x :: b, c < 1000 := fun c hc => by
  rcases List.mem_cons.mp hc with h | h
  · rw [h]; exact h1
  · exact h2 c h
theorem num_lt (n : Nat) : ∀ c ∈ TL.numL n, c < 1000 := fun c hc => by
  have := TL.numL_digits n c hc
  omega
theorem quote_lt {w : List Nat} (h : ∀ c ∈ w, c ∈ signsL) : ∀ c ∈ quoteL w, c < 1000 := cons_lt (by decide) (app_lt (esc_lt (signs_lt h)) (by decide))
theorem good_fine {w : Wd} (g : GoodW w.1 w.2.1 w.2.2) : WdFine w := by
  obtain ⟨k, v, t⟩ := w
  dsimp only at g
  cases g with
  | name h1 h2 h3 =>
    have : ∀ c ∈ t, c < 1000 := fun c hc => (show ∀ c ∈ lowL, c < 1000 by decide) c (h3 c hc)
    exact ⟨(by decide +kernel : PyData.strOk "name" = true), .inr ⟨t, rfl, this⟩, this⟩
  | @num n hn => exact ⟨(by decide +kernel : PyData.strOk "number" = true), .inl ⟨_, rfl⟩, num_lt n⟩
  | @quo w h1 h2 => exact ⟨(by decide +kernel : PyData.strOk "quoted" = true), .inr ⟨w, rfl, signs_lt h2⟩, quote_lt h2⟩
  | @bra c hc =>
    have : ∀ d ∈ [c], d < 1000 := fun d hd => by
      rw [List.mem_singleton.mp hd]
      exact (show ∀ c ∈ [40, 41], c < 1000 by decide) c hc
    exact ⟨(by decide +kernel : PyData.strOk "bracket" = true), .inr ⟨[c], rfl, this⟩, this⟩
theorem bad_fine {k : Str} {o : Int} {t : List Nat} (g : BadW k o t) : PyData.strOk k = true ∧ ∀ c ∈ t, c < 1000 := by
  have pl : ∀ {u : List Nat}, (∀ c ∈ u, c ∈ [97, 32, 48, 110, 40, 41, 126, 59]) → ∀ c ∈ u, c < 1000 := fun h c hc => (show ∀ c ∈ [97, 32, 48, 110, 40, 41, 126, 59], c < 1000 by decide) c (h c hc)
  cases g with
  | @zero n hn => exact ⟨by decide +kernel, cons_lt (by decide) (num_lt n)⟩
  | @many d j h1 h2 h3 =>
    have r : ∀ n, ∀ c ∈ repL n [57], c < 1000 := fun n => by
      induction n with
      | zero => intro c hc; cases hc
      | succ n ih => exact cons_lt (by decide) ih
    exact ⟨by decide +kernel, app_lt (app_lt (num_lt d) (by decide)) (r j)⟩
  | @esc w e h1 h2 h3 =>
    exact ⟨by decide +kernel, app_lt (cons_lt (by decide) (esc_lt (signs_lt h2))) (cons_lt (by decide) (cons_lt ((show ∀ e ∈ [116, 97, 98, 78, 32, 48, 39, 40], e < 1000 by decide) e h3) (by decide)))⟩
  | @tab w h1 h2 => exact ⟨by decide +kernel, app_lt (cons_lt (by decide) (esc_lt (signs_lt h2))) (by decide)⟩
  | @opn u h1 h2 => exact ⟨by decide +kernel, cons_lt (by decide) (pl h2)⟩
  | @back u h1 h2 => exact ⟨by decide +kernel, app_lt (cons_lt (by decide) (pl h2)) (by decide)⟩
  | @sign c hc => exact ⟨by decide +kernel, cons_lt ((show ∀ c ∈ [65, 90, 59, 95, 45, 39, 126, 61, 44, 9, 92, 91, 93, 96], c < 1000 by decide) c hc) (fun _ h => nomatch h)⟩
theorem wok_fine {w : Wd} (h : WOk w) : WdFine w := by
  rcases h with h | ⟨o, e, h⟩
  · exact good_fine h
  · obtain ⟨h1, h2⟩ := bad_fine h
    exact ⟨h1, .inl ⟨o, e⟩, h2⟩
theorem due_fine : ∀ (ws : List Wd) (is : List (Nat × List Nat)) (n : Nat), (∀ w ∈ ws, WOk w) → ∀ x ∈ dueL n ws is, W3Fine x
  | [], is, n, _, x, hx => by cases is <;> cases hx
  | w :: ws, [], n, _, x, hx => by cases hx
  | (k, v, u) :: ws, (g, t) :: is, n, h, x, hx => by
    have hw := h (k, v, u) (List.mem_cons_self ..)
    have hf := wok_fine hw
    rcases hw with gw | ⟨o, eo, gw⟩
    · rw [dueL_good (good_kind gw)] at hx
      rcases List.mem_cons.mp hx with hx | hx
      · rw [hx]; exact ⟨hf.1, hf.2.1⟩
      · exact due_fine ws is _ (fun w hw => h w (List.mem_cons_of_mem _ hw)) x hx
    · dsimp only at eo
      subst eo
      rw [dueL_bad (bad_kind gw)] at hx
      rw [List.mem_singleton.mp hx]
      exact ⟨hf.1, .inl ⟨_, rfl⟩⟩

end
end Vf

set_option maxRecDepth 100000
set_option maxHeartbeats 4000000
namespace Vf
open PySem PySem.Spec PyProof.Rows L2 SX
section
variable {P : Program} {w : World} {K : PySem.W.Frag} {mg : Str → Option Value} {base : Heap}
theorem ok_law {f : Addr} {fd : FuncData} (F : C8.Def K mg "law" s_law f fd) (T : Tx K w mg) (C_pen : C8.Cal P w K mg base 1 "_law_pen" (sp_pen K) []) (C_draw : C8.Cal P w K mg base 1 "_law_draw" sp_draw []) (C_rightWord : C8.Cal P w K mg base 5 "_law_right_word" sp_rightWord []) (C_wrongWord : C8.Cal P w K mg base 5 "_law_wrong_word" sp_wrongWord []) (C_lineOfWords : C8.Cal P w K mg base 2 "_law_line_of_words" sp_lineOfWords []) (C_lineWords : C8.Cal P w K mg base 4 "line_words" sp_lineWords []) (C_anyWord : C8.Cal P w K mg base 4 "_law_any_word" sp_anyWord []) (C_quotedText : C8.Cal P w K mg base 1 "quoted_text" sp_quotedText []) (C_quoted : C8.Cal P w K mg base 1 "_law_quoted" sp_quoted []) : FnOk P w K mg base C8.CX0 6 f fd ["_law_script"] (sp_law K) := by
  refine C8.fn0 F.fn sc_law (fun vs H Q E h => ?_) (fun cdv A outer s H vs Q E hr h => ?_)
  · obtain ⟨a, ns, rfl, _⟩ := h; rfl
  have hu := hu_of hr
  refine ⟨_, (pss_cons (ps_set (i := 1) sc_law.nd rfl (Or.inr rfl) (C8.pe_c C_pen hr (by decide) rfl (pa_cons (pv 0) pa_nil)))
      (C8.pss_cut (ps_setLc (i := 2) (own := [("_law_k", 14)]) (g := (gName 14)) (tt := tYes) rfl sc_law.nd rfl rfl (sw_true rfl rfl rfl (by decide +kernel)) (pi_range1 (by rfl) T.z_range (pa_cons (C8.pe_c C_draw hr (by decide) rfl (pa_cons (pv 1) (pa_cons pe_int pa_nil))) pa_nil)) (blkOk_by (N := N_law) (sc := C8.fnScope s_law) (by decide +kernel)) (fun _ _ _ _ _ => pg_name (i := 14) sc_law.nd rfl (Or.inl rfl)) (fun _ _ _ _ _ => pts_nil) (fun _ _ _ _ _ => (C8.pe_c C_rightWord hr (by decide) rfl (pa_cons (pv 1) pa_nil))))
      (C8.pss_cut (ps_if (pt_cmpR op_eq (C8.pe_c C_draw hr (by decide) rfl (pa_cons (pv 1) (pa_cons pe_int pa_nil))) pe_int (nomark _))
      (pss_cons (ps_par (i := 3) (j := 4) (by rfl) sc_law.nd rfl rfl (by decide) rfl rfl (pa_cons (C8.pe_c C_wrongWord hr (by decide) rfl (pa_cons (pv 1) pa_nil)) (pa_cons (C8.pe_c C_draw hr (by decide) rfl (pa_cons (pv 1) (pa_cons (pe_op op_add (pe_callB call_len (by rfl) T.z_len PySem.boot_len (pa_cons (pv 2) pa_nil)) pe_int) pa_nil))) pa_nil)) (by rfl))
      (C8.pss_cut (ps_set (i := 5) sc_law.nd rfl (Or.inl rfl) (pe_and (pe_cmpR op_eq (pe_ix ix_tup (pv 3) pe_int (fun _ _ => rfl)) pe_str (nomark _)) (pe_one (pe_not (pe_and (pe_cmpR op_eq (pe_ix ix_str (pe_ix ix_tup (pv 3) pe_int (fun _ _ => rfl)) (pe_un un_neg pe_int) (fun _ _ => rfl)) pe_str (nomark _)) (pe_one (pe_cmpR op_gt (pe_callB call_len (by rfl) T.z_len PySem.boot_len (pa_cons (pe_ix ix_tup (pv 3) pe_int (fun _ _ => rfl)) pa_nil)) pe_int (nomark _))))))))
      (pss_one (ps_set (i := 2) sc_law.nd rfl (Or.inl rfl) (pe_op op_cat (pe_op op_cat (pe_slice sl_list (pv 2) po_none (po_some (pv 4))) (pe_lst (pa_cons (pv 3) pa_nil))) (pe_ifExp (pt_val (pv 5)) (pe_lst pa_nil) (pe_slice sl_list (pv 2) (po_some (pv 4)) po_none)))))))
      pss_nil)
      (C8.pss_cut (ps_asg (C8.pe_c C_lineOfWords hr (by decide) rfl (pa_cons (pv 1) (pa_cons (pe_lc (own := [("_law_word", 9)]) (g := (gName 9)) (tt := tYes) rfl sc_law.nd (pi_list (pv 2)) (blkOk_by (N := N_law) (sc := C8.fnScope s_law) (by decide +kernel)) (fun _ _ _ _ _ => pg_name (i := 9) sc_law.nd rfl (Or.inl rfl)) (fun _ _ _ _ _ => pts_nil) (fun _ _ _ _ _ => (pe_ix (ix_tupK (K := K) rfl) (pv 9) pe_int (fun _ _ => rfl)))) pa_nil))) (pg_tup (by rfl) (pgs_cons (pg_name (i := 6) sc_law.nd rfl (Or.inl rfl)) (pgs_cons (pg_name (i := 7) sc_law.nd rfl (Or.inl rfl)) pgs_nil))))
      (pss_cons (ps_set (i := 8) sc_law.nd rfl (Or.inl rfl) (pe_lst pa_nil))
      (C8.pss_cut (ps_for PassesOwn.never rfl (pi_zip (by rfl) T.z_zip (pa_cons (pv 2) (pa_cons (pv 7) pa_nil))) (pg_tup rfl (pgs_cons (pg_name (i := 9) sc_law.nd rfl (Or.inl rfl)) (pgs_cons (pg_name (i := 10) sc_law.nd rfl (Or.inl rfl)) pgs_nil)))
      (pss_cons (ps_set (i := 11) sc_law.nd rfl (Or.inl rfl) (pe_cmpR op_in_seq (pe_ix ix_tup (pv 9) pe_int (fun _ _ => rfl)) (pe_tup (pa_cons pe_str (pa_cons pe_str (pa_cons pe_str pa_nil)))) rfl))
      (pss_cons (ps_expr (pe_bm PySem.F.plainAttrs_list PySem.F.slot_list_append PySem.F.type_list_append mt_append (pv 8) (pa_cons (pe_tup (pa_cons (pe_ix ix_tup (pv 9) pe_int (fun _ _ => rfl)) (pa_cons (pe_ifExp (pt_val (pv 11)) (pe_op op_add (pe_ix ix_tup (pv 9) pe_int (fun _ _ => rfl)) (pv 10)) (pe_ix ix_tup (pv 9) pe_int (fun _ _ => rfl))) (pa_cons (pv 10) pa_nil)))) pa_nil)))
      (pss_one (ps_if (pt_val (pv 11))
      (pss_one ps_break)
      pss_nil)))))
      (C8.pss_cut (ps_if (PW.pt (pw_and (pt_cmpR (op_neD hr.units) (pv 2) (pe_lst pa_nil) (nomark _)) (pw_and (pt_cmpR op_eq (pe_ix ix_tup (pe_ix ix_list (pv 2) (pe_un un_neg pe_int) (fun _ _ => rfl)) pe_int (fun _ _ => rfl)) pe_str (nomark _)) (pw_and1 (pt_cmpR op_eq (pe_ix ix_str (pe_ix ix_tup (pe_ix ix_list (pv 2) (pe_un un_neg pe_int) (fun _ _ => rfl)) pe_int (fun _ _ => rfl)) (pe_un un_neg pe_int) (fun _ _ => rfl)) pe_str (nomark _))))))
      (pss_one (ps_set (i := 6) sc_law.nd rfl (Or.inl rfl) (pe_op op_add_str (pe_slice C8.sl_txt (pv 6) po_none (po_some (pe_op op_sub (pe_ix ix_list (pv 7) (pe_un un_neg pe_int) (fun _ _ => rfl)) pe_int))) (pe_ix ix_tup (pe_ix ix_list (pv 2) (pe_un un_neg pe_int) (fun _ _ => rfl)) pe_int (fun _ _ => rfl)))))
      pss_nil)
      (C8.pss_cut (ps_set (i := 12) sc_law.nd rfl (Or.inl rfl) (C8.pe_c C_lineWords hr (by decide) rfl (pa_cons (pv 6) pa_nil)))
      (C8.pss_cut (ps_if (PW.pt (pw_or (pt_not (pt_val (pe_callB call_isi (by rfl) T.z_isinstance (by decide +kernel) (pa_cons (pv 12) (pa_cons (pe_bltn (v := .ty "tuple") (by rfl) T.z_tuple (by decide +kernel) rfl) pa_nil))))) (pw_or1 (pt_cmpR (op_neD hr.units) (pe_callTy call_list_of (by rfl) T.z_list (by decide +kernel) (pa_cons (pv 12) pa_nil)) (pv 8) (nomark _)))))
      (pss_one (ps_ret pe_bl))
      pss_nil)
      (pss_cons (ps_set (i := 13) sc_law.nd rfl (Or.inl rfl) (C8.pe_c C_anyWord hr (by decide) rfl (pa_cons (pv 1) (pa_cons pe_int (pa_cons pe_int (pa_cons pe_bl pa_nil))))))
      (pss_one (ps_ret (pe_and (pe_cmpR op_eq (C8.pe_c C_quotedText hr (by decide) rfl (pa_cons (pv 13) pa_nil)) (C8.pe_c C_quoted hr (by decide) rfl (pa_cons (pv 13) pa_nil)) (nomark _)) (pe_one (pe_cmpR (op_eqD hr.units) (C8.pe_c C_lineWords hr (by decide) rfl (pa_cons (C8.pe_c C_quotedText hr (by decide) rfl (pa_cons (pv 13) pa_nil)) pa_nil)) (pe_tup (pa_cons (pe_tup (pa_cons pe_str (pa_cons (pv 13) (pa_cons pe_int pa_nil)))) pa_nil)) (nomark _)))))))))))))))), ?_⟩

  obtain ⟨a, ns, rfl, hS, hl63, q⟩ := h
  refine ⟨_, rfl, a, ns, rfl, hS, hl63, fun H0 p c ks0 hp0 => ?_⟩
  -- the words
  refine ⟨fun σ' H' => ∃ (lw : Addr) (aw : List (Addr × Wd)), σ' = [some (.ref a), some (.ref p), some (.ref lw), none, none, none, none, none, none, none, none, none, none, none, none] ∧ PenAt H' p c 300 ∧ H' lw = some (.lst (aw.map fun x => V.ref x.1)) ∧ AwAt H' aw ∧ aw.length ≤ 8 ∧ ∀ x ∈ aw, GoodW x.2.1 x.2.2.1 x.2.2.2, ?_, ?_⟩
  · refine ⟨_, rfl, p, c, 0, 9, rfl, hp0, by omega, by decide, by decide, fun H1 r k1 k2 hr1 => ?_⟩
    refine ⟨_, rfl, by omega, by omega, fun D hD => ?_⟩
    rw [show ((r : Int)).toNat = r from Int.toNat_natCast r]
    refine lc_pen (m0 := 1) (s := 20) (k := 14) RW RW.stab (by show 14 < 15; decide) hD k2 (by omega) (fun i H2 m2 Q2 hi hp2 hm2 hq => ?_) (fun H2 xs e1 e2 e3 e4 e5 => ?_)
    · exact ⟨_, rfl, p, c, m2, rfl, hp2, by omega, fun H3 v j1 j2 j3 => hq H3 v j1 j2 j3⟩
    · obtain ⟨aw, rfl, h1, h2⟩ := rw_aw e2
      rw [List.length_map] at e1
      exact ⟨D, aw, rfl, e5.mono (by omega), e3, h1, by omega, h2⟩
  rintro σ' H1 ⟨lw0, aw0, rfl, hp1, hlw0, hA0, hl0, hg0⟩
  -- perhaps a wrong one
  refine ⟨fun σ' H' => ∃ (lw : Addr) (aw : List (Addr × Wd)) (v3 v4 v5 : Option V), σ' = [some (.ref a), some (.ref p), some (.ref lw), v3, v4, v5, none, none, none, none, none, none, none, none, none] ∧ PenAt H' p c 400 ∧ H' lw = some (.lst (aw.map fun x => V.ref x.1)) ∧ AwAt H' aw ∧ aw.length ≤ 9 ∧ WsP (aw.map (·.2)) ∧ ∀ x ∈ aw, WOk x.2, ?_, ?_⟩
  · refine ⟨_, rfl, p, c, 300, 2, rfl, hp1, by omega, by decide, by decide, fun H2 r2 k3 k4 hr2 => ?_⟩
    refine ⟨rfl, _, rfl, ?_⟩
    refine ite2 (fun _ => ?_) (fun _ => ?_)
    · refine ⟨_, rfl, p, c, 301, rfl, k4, by omega, fun H3 wa k o t k5 k6 hwa hbad => ?_⟩
      have hlw3 : H3 lw0 = some (.lst (aw0.map fun x => V.ref x.1)) := (k3.trans k5).lst hlw0
      refine ⟨_, rfl, _, rfl, _, aw0.length, rfl, .inl ⟨_, SqL.of hlw3, by rw [List.length_map]⟩, _, _, rfl, rfl, p, c, _, aw0.length + 1, rfl, k6, by omega, by omega, by omega, fun H4 sp k7 k8 hsp => ?_⟩
      have hlw4 : H4 lw0 = some (.lst (aw0.map fun x => V.ref x.1)) := k7.lst hlw3
      have hwa4 : H4 wa = some (.tup [.str k, .int o, .str (S t)]) := k7.tup hwa
      have hA4 : AwAt H4 aw0 := hA0.tk ((k3.trans k5).trans k7).tk
      obtain ⟨tn, t30⟩ := bad_ne hbad |>.1 |> fun h => (⟨h, (bad_ne hbad).2.2⟩ : t ≠ [] ∧ t.length ≤ 30)
      refine ⟨_, _, rfl, ?_⟩
      -- ends
      refine ⟨fun σ' H' => ∃ b : Bool, σ' = [some (.ref a), some (.ref p), some (.ref lw0), some (.ref wa), some (.int (sp : Int)), some (.bl b), none, none, none, none, none, none, none, none, none] ∧ H' = H4 ∧ (b = true ↔ Ends k t), ?_, ?_⟩
      · obtain ⟨ch, hch⟩ : ∃ ch, t.getLast? = some ch := ⟨t.getLast tn, List.getLast?_eq_some_getLast tn⟩
        have hT : SqT K H4 wa [.str k, .int o, .str (S t)] := SqT.of hwa4
        refine ⟨_, rfl, wa, _, 0, _, rfl, rfl, hT, rfl, rfl, _, rfl, ?_⟩
        refine ite2 (fun e1 => ?_) (fun e1 => ?_)
        · have e1' : k = "bad quoted" := V.str.inj (of_decide_eq_true e1)
          refine ⟨_, rfl, wa, _, 2, _, rfl, rfl, hT, rfl, _, rfl, S t, _, ch, rfl, rfl, by rw [S_len]; exact szB (by omega), atI_m1 hch, rfl, _, rfl, ?_⟩
          refine ite2 (fun e2 => ?_) (fun e2 => ?_)
          · have e2' : ch = 34 := of_decide_eq_true ((eq1 ch 34).symm.trans e2)
            refine ⟨_, rfl, wa, _, 2, _, rfl, rfl, hT, rfl, _, t.length, rfl, ⟨by rw [S_len]; exact szB (by omega), by rw [S_len]⟩, _, _, rfl, rfl, _, rfl, ?_⟩
            refine ⟨!decide ((1 : Int) < (t.length : Int)), rfl, rfl, ?_⟩
            have e3 : decide ((1 : Int) < (t.length : Int)) = decide (1 < t.length) := by
              by_cases h : 1 < t.length
              · rw [decide_eq_true h, decide_eq_true (by omega)]
              · rw [decide_eq_false h, decide_eq_false (by omega)]
            rw [e3]
            constructor
            · intro hb
              refine ⟨e1', fun z => ?_⟩
              rw [decide_eq_true z.2] at hb
              cases hb
            · intro hE
              have : ¬ 1 < t.length := fun z => hE.2 ⟨by rw [hch, e2'], z⟩
              rw [decide_eq_false this]
              rfl
          · have e2' : ¬ ch = 34 := fun z => e2 ((eq1 ch 34).trans (decide_eq_true z))
            refine ⟨_, rfl, true, rfl, rfl, fun _ => ⟨e1', fun z => e2' (by rw [hch] at z; exact Option.some.inj z.1)⟩, fun _ => rfl⟩
        · have e1' : ¬ k = "bad quoted" := fun z => e1 (by rw [z]; exact decide_eq_true rfl)
          exact ⟨false, rfl, rfl, fun z => (nomatch z), fun z => absurd z.1 e1'⟩
      · rintro σ' H' ⟨b, rfl, rfl, hb⟩
        have hS4 : SqL K H' lw0 (aw0.map fun x => V.ref x.1) := SqL.of hlw4
        refine ⟨_, rfl, _, rfl, _, rfl, lw0, _, rfl, hS4, fun p1 n1 => ?_⟩
        refine ⟨_, rfl, sz_1, fun p2 n2 => ?_⟩
        have n2p1 : p1 ≠ p2 := ne_of_none upd_same n2
        have n2' : H' p2 = none := by rw [upd_ne n2p1.symm] at n2; exact n2
        refine ⟨p1, p2, _, _, rfl, rfl, by rw [upd_ne n2p1, upd_same], upd_same, szB (by rw [cut_to, List.length_take, List.length_map]; show min _ _ + 1 ≤ 1000000; omega), fun p3 n3 => ?_⟩
        rw [cut_to]
        have ks1 : Ks H' (upd (upd (upd H' p1 (.lst ((aw0.map fun x => V.ref x.1).take sp))) p2 (.lst [.ref wa])) p3 (.lst ((aw0.map fun x => V.ref x.1).take sp ++ [.ref wa]))) := by
          rw [cut_to] at n3 n2
          exact ((Ks.new1 n1 _).new n2 _).new n3 _
        have h3 : (upd (upd (upd H' p1 (.lst ((aw0.map fun x => V.ref x.1).take sp))) p2 (.lst [.ref wa])) p3 (.lst ((aw0.map fun x => V.ref x.1).take sp ++ [.ref wa]))) p3 = some (.lst ((aw0.map fun x => V.ref x.1).take sp ++ [.ref wa])) := upd_same
        have hp3 : PenAt (upd (upd (upd H' p1 (.lst ((aw0.map fun x => V.ref x.1).take sp))) p2 (.lst [.ref wa])) p3 (.lst ((aw0.map fun x => V.ref x.1).take sp ++ [.ref wa]))) p c (301 + 40 + 1) := by
          rw [cut_to] at n3 n2
          exact ((k8.new n1).new n2).new n3
        generalize (upd (upd (upd H' p1 (.lst ((aw0.map fun x => V.ref x.1).take sp))) p2 (.lst [.ref wa])) p3 (.lst ((aw0.map fun x => V.ref x.1).take sp ++ [.ref wa]))) = Hb at ks1 h3 hp3 ⊢
        have fin : ∀ (rest : List (Addr × Wd)), (∀ x ∈ rest, x ∈ aw0) → (Ends k t → rest = []) → rest.length + sp ≤ aw0.length → ∀ (H5 : Hp) (l5 : Addr), Ks H' H5 → PenAt H5 p c 342 → H5 l5 = some (.lst ((aw0.map fun x => V.ref x.1).take sp ++ [.ref wa] ++ rest.map fun x => V.ref x.1)) →
            ∃ (lw : Addr) (aw : List (Addr × Wd)) (v3 v4 v5 : Option V), [some (V.ref a), some (V.ref p), some (V.ref l5), some (V.ref wa), some (V.int (sp : Int)), some (V.bl b), none, none, none, none, none, none, none, none, none] = [some (.ref a), some (.ref p), some (.ref lw), v3, v4, v5, none, none, none, none, none, none, none, none, none] ∧ PenAt H5 p c 400 ∧ H5 lw = some (.lst (aw.map fun x => V.ref x.1)) ∧ AwAt H5 aw ∧ aw.length ≤ 9 ∧ WsP (aw.map (·.2)) ∧ ∀ x ∈ aw, WOk x.2 := fun rest hr1 hr2 hr3 H5 l5 kk hpp hl5 => by
          refine ⟨l5, aw0.take sp ++ [(wa, (k, .int o, t))] ++ rest, _, _, _, rfl, hpp.mono (by omega), ?_, fun x hx => ?_, ?_, ?_, fun x hx => ?_⟩
          · rw [hl5, List.map_append, List.map_append, List.map_take]; rfl
          · rcases List.mem_append.mp hx with hx | hx
            · rcases List.mem_append.mp hx with hx | hx
              · exact kk.tup (hA4 x (List.mem_of_mem_take hx))
              · rw [List.mem_singleton.mp hx]
                exact kk.tup hwa4
            · exact kk.tup (hA4 x (hr1 x hx))
          · rw [List.length_append, List.length_append, List.length_take]
            show min _ _ + 1 + _ ≤ 9
            omega
          · rw [List.map_append, List.map_append, List.append_assoc]
            refine wsp_good (fun w hw => ?_) (.bad hbad fun he => by rw [hr2 he]; rfl)
            obtain ⟨x, hx, rfl⟩ := List.mem_map.mp hw
            exact hg0 x (List.mem_of_mem_take hx)
          · rcases List.mem_append.mp hx with hx | hx
            · rcases List.mem_append.mp hx with hx | hx
              · exact .inl (hg0 x (List.mem_of_mem_take hx))
              · rw [List.mem_singleton.mp hx]
                exact .inr ⟨o, rfl, hbad⟩
            · exact .inl (hg0 x (hr1 x hx))
        refine ⟨_, rfl, b, rfl, ?_⟩
        cases b with
        | true =>
          refine iteT ?_
          refine ⟨Nat.zero_le _, fun p4 n4 => ⟨p3, p4, _, _, rfl, rfl, by rw [upd_ne (ne_of_none h3 n4)]; exact h3, upd_same, szB (by rw [List.length_append, List.length_take, List.length_map]; show min _ _ + 1 + 0 ≤ 1000000; omega), fun p5 n5 => ?_⟩⟩
          exact fin [] (fun x h => nomatch h) (fun _ => rfl) (by show 0 + sp ≤ _; omega) _ p5 ((ks1.new n4 _).new n5 _) ((hp3.new n4).new n5) upd_same
        | false =>
          refine iteF ?_
          refine ⟨_, rfl, _, rfl, _, rfl, lw0, _, rfl, SqL.of (ks1.lst hlw4), fun p4 n4 => ?_⟩
          rw [cut_from]
          refine ⟨p3, p4, _, _, rfl, rfl, by rw [upd_ne (ne_of_none h3 n4)]; exact h3, upd_same, szB (by rw [List.length_append, List.length_take, List.length_drop, List.length_map]; show min _ _ + 1 + _ ≤ 1000000; omega), fun p5 n5 => ?_⟩
          exact fin (aw0.drop sp) (fun x h => List.mem_of_mem_drop h) (fun he => nomatch (hb.mpr he)) (by rw [List.length_drop]; omega) _ p5 ((ks1.new n4 _).new n5 _) ((hp3.new n4).new n5) (by rw [upd_same, List.map_drop])
    · exact ⟨lw0, aw0, _, _, _, rfl, k4.mono (by omega), k3.lst hlw0, hA0.tk k3.tk, by omega, by
        have := wsp_good (a := aw0.map (·.2)) (r := []) (fun w hw => by
          obtain ⟨x, hx, rfl⟩ := List.mem_map.mp hw
          exact hg0 x hx) .nil
        rwa [List.append_nil] at this, fun x hx => .inl (hg0 x hx)⟩
  rintro σ' H2 ⟨lw, aw, v3, v4, v5, rfl, hp2, hlw, hA, hl9, hW, hO⟩
  clear hlw0 hA0 hg0 hp1
  -- the line
  refine ⟨fun σ' H' => ∃ (cl : Addr) (is : List (Nat × List Nat)) (e : Nat), σ' = [some (.ref a), some (.ref p), some (.ref lw), v3, v4, v5, some (.str (S (asm is ++ blanks e))), some (.ref cl), none, none, none, none, none, none, none] ∧ PenAt H' p c 500 ∧ H' lw = some (.lst (aw.map fun x => V.ref x.1)) ∧ AwAt H' aw ∧
      H' cl = some (.lst ((cols 0 is).map fun n : Nat => V.int (n : Int))) ∧ is.map (·.2) = aw.map (·.2.2.2) ∧ Gaps [] is ∧ (asm is).length ≤ 1000 ∧ e ≤ 10, ?_, ?_⟩
  · refine ⟨_, rfl, _, rfl, lw, rfl, ⟨_, SqL.of hlw⟩, fun D hD => ?_⟩
    have lD := ne_of_none hlw hD
    refine lc_list (K := K) (a := lw) (xs := aw.map fun x => V.ref x.1) (fun i H => H = upd H2 D (.lst ((aw.take i).map fun x => V.str (S x.2.2.2)))) rfl (fun i H _ e => by rw [e]; exact SqL.of (by rw [upd_ne lD]; exact hlw)) ?_ ?_
    · rintro i x H3 hi rfl
      rw [List.getElem?_map] at hi
      cases hx : aw[i]? with
      | none => rw [hx] at hi; cases hi
      | some y =>
        rw [hx] at hi
        have ex : V.ref y.1 = x := Option.some.inj hi
        subst ex
        have hy := hA y (List.mem_of_getElem? hx)
        refine ⟨rfl, ?_⟩
        dsimp only [tYes]
        rw [if_pos rfl]
        refine ⟨_, rfl, y.1, wv y.2, 2, _, rfl, rfl, SqT.of (by rw [upd_ne (ne_of_none hy hD)]; exact hy), rfl, _, upd_same, szL (by rw [List.length_map, List.length_take]; omega), ?_⟩
        rw [upd_upd, List.take_add_one, hx, List.map_append]
        rfl
    · rintro H3 rfl
      rw [List.length_map, List.take_length]
      refine ⟨p, c, D, 400, aw.map (·.2.2.2), rfl, hp2.new hD, by omega, by rw [upd_same, List.map_map]; rfl, by rw [List.length_map]; exact hl9, fun t ht => ?_, fun H4 ra cl is e k1 k2 hra hcl h1 h2 h3 h4 => ?_⟩
      · obtain ⟨x, hx, rfl⟩ := List.mem_map.mp ht
        exact wok_ne (hO x hx)
      · refine ⟨ra, _, rfl, SqT.of hra, rfl, _, _, rfl, _, _, rfl, rfl, ?_⟩
        exact ⟨cl, is, e, rfl, k2.mono (by omega), ((Ks.new1 hD _).trans k1).lst hlw, hA.tk ((Ks.new1 hD _).trans k1).tk, hcl, h1, h2, h3, h4⟩
  rintro σ' H3 ⟨cl, is, e, rfl, hp3, hlw3, hA3, hcl, hts, hgap, hlen, he⟩
  clear hlw hA hp2
  -- what is due
  refine ⟨Nat.zero_le _, fun dl ndl => ?_⟩
  have hlen2 : aw.length = is.length := by
    have := congrArg List.length hts
    rw [List.length_map, List.length_map] at this
    exact this.symm
  refine ⟨fun σ' H' => ∃ (dw : List (Addr × W3)) (v9 v10 v11 : Option V), σ' = [some (.ref a), some (.ref p), some (.ref lw), v3, v4, v5, some (.str (S (asm is ++ blanks e))), some (.ref cl), some (.ref dl), v9, v10, v11, none, none, none] ∧ PenAt H' p c 500 ∧ H' lw = some (.lst (aw.map fun x => V.ref x.1)) ∧ AwAt H' aw ∧
      H' cl = some (.lst ((cols 0 is).map fun n : Nat => V.int (n : Int))) ∧ H' dl = some (.lst (dw.map fun x => V.ref x.1)) ∧ DwAt H' dw ∧ dw.length ≤ 9 ∧ dw.map (·.2) = dueL 0 (aw.map (·.2)) is, ?_, ?_⟩
  · have h0lw : (upd H3 dl (.lst [])) lw = some (.lst (aw.map fun x => V.ref x.1)) := by rw [upd_ne (ne_of_none hlw3 ndl)]; exact hlw3
    have h0cl : (upd H3 dl (.lst [])) cl = some (.lst ((cols 0 is).map fun n : Nat => V.int (n : Int))) := by rw [upd_ne (ne_of_none hcl ndl)]; exact hcl
    have nlw : lw ≠ dl := ne_of_none hlw3 ndl
    have ncl : cl ≠ dl := ne_of_none hcl ndl
    have npp := hp3.ne ndl
    refine ⟨_, rfl, _, rfl, lw, cl, _, _, rfl, SqL.of h0lw, SqL.of h0cl, ?_⟩
    refine RZ.for_zipL (K := K) (xs := aw.map fun x => V.ref x.1) (ys := (cols 0 is).map fun n : Nat => V.int (n : Int)) (by rw [List.length_map, List.length_map, cols_len, hlen2]) (fun i σ H => ∃ (dw : List (Addr × W3)) (n : Nat) (v9 v10 v11 : Option V), σ = [some (.ref a), some (.ref p), some (.ref lw), v3, v4, v5, some (.str (S (asm is ++ blanks e))), some (.ref cl), some (.ref dl), v9, v10, v11, none, none, none] ∧ Ks H3 H ∧ PenAt H p c 500 ∧
      H dl = some (.lst (dw.map fun x => V.ref x.1)) ∧ DwAt H dw ∧ dw.length ≤ i ∧ dueL 0 (aw.map (·.2)) is = dw.map (·.2) ++ dueL n ((aw.drop i).map (·.2)) (is.drop i) ∧ (cols 0 is).drop i = cols n (is.drop i))
      ⟨[], 0, _, _, _, rfl, Ks.new1 ndl _, hp3.new ndl, upd_same, (fun x h => nomatch h), Nat.le_refl _, rfl, rfl⟩ ?_ ?_ ?_
    · rintro i σ H ⟨dw, n, v9, v10, v11, rfl, ks, _⟩
      exact ⟨SqL.of (ks.lst hlw3), SqL.of (ks.lst hcl)⟩
    · rintro i x y T σ H hx hy ⟨dw, n, v9, v10, v11, rfl, ks, hpH, hdl, hdw, hdl2, hdue, hcol⟩ hT
      rw [List.getElem?_map] at hx
      cases hxa : aw[i]? with
      | none => rw [hxa] at hx; cases hx
      | some y0 =>
        obtain ⟨ya, k, v, t⟩ := y0
        rw [hxa] at hx
        have ex : V.ref ya = x := Option.some.inj hx
        subst ex
        have hym := List.mem_of_getElem? hxa
        obtain ⟨hia, _⟩ := List.getElem?_eq_some_iff.mp hxa
        have hii : i < is.length := by omega
        obtain ⟨g, u, hgi⟩ : ∃ g u, is.drop i = (g, u) :: is.drop (i + 1) := ⟨is[i].1, is[i].2, List.drop_eq_getElem_cons hii⟩
        have hdi : aw.drop i = (ya, k, v, t) :: aw.drop (i + 1) := by
          rw [List.drop_eq_getElem_cons hia]
          have := (List.getElem?_eq_some_iff.mp hxa).2
          rw [this]
        rw [hgi, hdi] at hdue
        rw [hgi] at hcol
        have hcol1 : (cols 0 is)[i]? = some (n + g + 1) := by
          have h5 := congrArg (fun z => z[0]?) hcol
          rw [List.getElem?_drop] at h5
          exact h5
        have hcol2 : (cols 0 is).drop (i + 1) = cols (n + g + u.length) (is.drop (i + 1)) := by
          have h5 := congrArg (fun z => z.drop 1) hcol
          rw [List.drop_drop] at h5
          exact h5
        rw [List.getElem?_map, hcol1] at hy
        have ey : V.int ((n + g + 1 : Nat) : Int) = y := Option.some.inj hy
        subst ey
        have hyT := ks.tup (hA3 (ya, k, v, t) hym)
        have hdlT : dl ≠ T := ne_of_none hdl hT
        -- word, column = the pair
        refine ⟨T, _, rfl, SqT.of upd_same, rfl, _, _, rfl, _, _, rfl, rfl, ?_⟩
        have hyT1 : (upd H T (.tup [V.ref ya, V.int ((n + g + 1 : Nat) : Int)])) ya = some (.tup (wv (k, v, t))) := by rw [upd_ne (ne_of_none hyT hT)]; exact hyT
        have ks1 : Ks H (upd H T (.tup [V.ref ya, V.int ((n + g + 1 : Nat) : Int)])) := Ks.new1 hT _
        have hp1' : PenAt (upd H T (.tup [V.ref ya, V.int ((n + g + 1 : Nat) : Int)])) p c 500 := hpH.new hT
        generalize (upd H T (.tup [V.ref ya, V.int ((n + g + 1 : Nat) : Int)])) = HT at hyT1 ks1 hp1' ⊢
        refine ⟨_, rfl, ya, wv (k, v, t), 0, _, rfl, rfl, SqT.of hyT1, rfl, sz_3, fun tz ntz => ⟨tz, _, rfl, .inr (SqT.of upd_same), rfl, rfl, ?_⟩⟩
        have ks2 := ks1.new ntz (.tup [.str "bad number", .str "bad quoted", .str "bad sign"])
        have hp2' := hp1'.new (o := .tup [.str "bad number", .str "bad quoted", .str "bad sign"]) ntz
        have hyT2 : (upd HT tz (.tup [.str "bad number", .str "bad quoted", .str "bad sign"])) ya = some (.tup (wv (k, v, t))) := by rw [upd_ne (ne_of_none hyT1 ntz)]; exact hyT1
        have hdl2' : (upd HT tz (.tup [.str "bad number", .str "bad quoted", .str "bad sign"])) dl = some (.lst (dw.map fun x => V.ref x.1)) := ks2.lst hdl
        have go : ∀ (w : W3) (pt : Addr), (upd HT tz (.tup [.str "bad number", .str "bad quoted", .str "bad sign"])) pt = none → Ks H3 (upd (upd (upd HT tz (.tup [.str "bad number", .str "bad quoted", .str "bad sign"])) pt (.tup (w3V w))) dl (.lst (dw.map (fun x => V.ref x.1) ++ [.ref pt]))) ∧ PenAt (upd (upd (upd HT tz (.tup [.str "bad number", .str "bad quoted", .str "bad sign"])) pt (.tup (w3V w))) dl (.lst (dw.map (fun x => V.ref x.1) ++ [.ref pt]))) p c 500 ∧
            (upd (upd (upd HT tz (.tup [.str "bad number", .str "bad quoted", .str "bad sign"])) pt (.tup (w3V w))) dl (.lst (dw.map (fun x => V.ref x.1) ++ [.ref pt]))) dl = some (.lst ((dw ++ [(pt, w)]).map fun x => V.ref x.1)) ∧ DwAt (upd (upd (upd HT tz (.tup [.str "bad number", .str "bad quoted", .str "bad sign"])) pt (.tup (w3V w))) dl (.lst (dw.map (fun x => V.ref x.1) ++ [.ref pt]))) (dw ++ [(pt, w)]) := fun w pt npt => by
          have npt' : pt ≠ dl := (ne_of_none hdl2' npt).symm
          refine ⟨((ks.trans ks2).new npt _).upd ndl _, (hp2'.new npt).upd npp.1 npp.2, by rw [upd_same, List.map_append]; rfl, fun x hx => ?_⟩
          rcases List.mem_append.mp hx with hx | hx
          · have h7 := ks2.tup (hdw x hx)
            rw [upd_ne (ne_of h7 hdl2' (by intro z; cases z)), upd_ne (ne_of_none h7 npt)]
            exact h7
          · rw [List.mem_singleton.mp hx]
            show (upd (upd _ pt _) dl _) pt = _
            rw [upd_ne npt', upd_same]
        rcases hO _ hym with gw | ⟨o, eo, gw⟩
        · have hin : (if false = true then !inV (.str k) [.str "bad number", .str "bad quoted", .str "bad sign"] else inV (.str k) [.str "bad number", .str "bad quoted", .str "bad sign"]) = false := in_good gw
          have hk := good_kind gw
          dsimp only at hk
          refine ⟨_, rfl, .inl ⟨rfl, _, SqL.of hdl2'⟩, _, rfl, ya, wv (k, v, t), 0, _, rfl, rfl, SqT.of hyT2, rfl, _, rfl, false, congrArg V.bl hin, ?_⟩
          refine iteF ?_
          refine ⟨_, rfl, ya, wv (k, v, t), 1, _, rfl, rfl, SqT.of hyT2, rfl, _, rfl, sz_3, fun pt npt => ?_⟩
          obtain ⟨g1, g2, g3, g4⟩ := go (k, v, n + g + 1) pt npt
          refine ⟨dl, _, _, rfl, rfl, by rw [upd_ne (ne_of_none hdl2' npt)]; exact hdl2', szL (by rw [List.length_map]; omega), ?_⟩
          refine ⟨_, rfl, false, congrArg V.bl hin, ?_⟩
          refine iteF ?_
          refine ⟨dw ++ [(pt, (k, v, n + g + 1))], n + g + u.length, _, _, _, rfl, g1, g2, g3, g4, by rw [List.length_append]; show dw.length + 1 ≤ i + 1; omega, ?_, hcol2⟩
          rw [hdue, List.map_cons, dueL_good hk, List.map_append, List.append_assoc]
          rfl
        · dsimp only at eo
          subst eo
          have hin : (if false = true then !inV (.str k) [.str "bad number", .str "bad quoted", .str "bad sign"] else inV (.str k) [.str "bad number", .str "bad quoted", .str "bad sign"]) = true := in_bad gw
          have hk := bad_kind gw
          dsimp only at hk
          refine ⟨_, rfl, .inl ⟨rfl, _, SqL.of hdl2'⟩, _, rfl, ya, wv (k, .int o, t), 0, _, rfl, rfl, SqT.of hyT2, rfl, _, rfl, true, congrArg V.bl hin, ?_⟩
          refine iteT ?_
          refine ⟨_, rfl, ya, wv (k, .int o, t), 1, _, rfl, rfl, SqT.of hyT2, rfl, _, rfl, _, _, rfl, rfl, _, rfl, sz_3, fun pt npt => ?_⟩
          have eoc : o + ((n + g + 1 : Nat) : Int) = o + ((n + g : Nat) : Int) + 1 := by omega
          obtain ⟨g1, g2, g3, g4⟩ := go ((k, V.int (o + ((n + g + 1 : Nat) : Int)), n + g + 1) : W3) pt npt
          refine ⟨dl, _, _, rfl, rfl, by rw [upd_ne (ne_of_none hdl2' npt)]; exact hdl2', szL (by rw [List.length_map]; omega), ?_⟩
          refine ⟨_, rfl, true, congrArg V.bl hin, ?_⟩
          refine iteT ?_
          refine ⟨dw ++ [(pt, ((k, V.int (o + ((n + g + 1 : Nat) : Int)), n + g + 1) : W3))], _, _, _, rfl, g2, g1.lst hlw3, hA3.tk g1.tk, g1.lst hcl, g3, g4, by rw [List.length_append]; show dw.length + 1 ≤ 9; omega, ?_⟩
          rw [hdue, List.map_cons, dueL_bad hk, List.map_append, eoc]
          rfl
    · rintro σ H ⟨dw, n, v9, v10, v11, rfl, ks, hpH, hdl, hdw, hdl2, hdue, hcol⟩
      rw [List.length_map] at hdl2 hdue
      refine ⟨dw, v9, v10, v11, rfl, hpH, ks.lst hlw3, hA3.tk ks.tk, ks.lst hcl, hdl, hdw, by omega, ?_⟩
      rw [hdue, List.drop_eq_nil_of_le (Nat.le_refl _)]
      show _ = _ ++ []
      rw [List.append_nil]
  rintro σ' H4 ⟨dw, v9, v10, v11, rfl, hp4, hlw4, hA4, hcl4, hdl4, hdw4, hdn, hdue⟩
  -- a backslash at the end
  refine ⟨fun σ' H' => ∃ (e' : Nat), σ' = [some (.ref a), some (.ref p), some (.ref lw), v3, v4, v5, some (.str (S (asm is ++ blanks e'))), some (.ref cl), some (.ref dl), v9, v10, v11, none, none, none] ∧ PenAt H' p c 500 ∧ H' dl = some (.lst (dw.map fun x => V.ref x.1)) ∧ DwAt H' dw ∧ e' ≤ 10 ∧ ∀ w ∈ (aw.map (·.2)).getLast?, Back w.1 w.2.2 → e' = 0, ?_, ?_⟩
  · refine ⟨_, rfl, Nat.zero_le _, fun z nz => ?_⟩
    have kz : Ks H4 (upd H4 z (.lst [])) := Ks.new1 nz _
    have fz := aw_dp (K := K) (hA4.tk kz.tk) fun x hx => wok_fine (hO x hx)
    refine ⟨_, _, .lst (SqL.of (kz.lst hlw4)) fz, .lst (SqL.of upd_same) .nil, shaped_list (fun d hd => by
      obtain ⟨x, hx, rfl⟩ := List.mem_map.mp hd
      exact wD_lay (wok_fine (hO x hx))), rfl, _, rfl, ?_⟩
    rcases List.eq_nil_or_concat aw with h0 | ⟨ai, x, h0⟩
    · subst h0
      refine iteF ?_
      exact iteF ⟨e, rfl, hp4.new nz, kz.lst hdl4, (fun y hy => kz.tup (hdw4 y hy)), he, fun w hw => nomatch hw⟩
    · rw [List.concat_eq_append] at h0
      obtain ⟨xa, k, v, t⟩ := x
      have hxm : (xa, k, v, t) ∈ aw := by rw [h0]; exact List.mem_append_right _ (List.mem_singleton_self _)
      have hne : (!PyData.eqv (.list (aw.map fun x => wD x.2)) (.list [])) = true := by
        rw [h0, List.map_append]
        cases ai with
        | nil => rfl
        | cons y r => rfl
      rw [hne]
      refine iteT ?_
      have hglast : (aw.map (·.2)).getLast? = some (k, v, t) := by
        rw [h0, List.map_append, List.getLast?_append]; rfl
      have hlwz : (upd H4 z (.lst [])) lw = some (.lst (ai.map (fun x => V.ref x.1) ++ [.ref xa])) := by
        rw [kz.lst hlw4, h0, List.map_append]; rfl
      have hxz : (upd H4 z (.lst [])) xa = some (.tup (wv (k, v, t))) := kz.tup (hA4 _ hxm)
      have hSz : SqL K (upd H4 z (.lst [])) lw (ai.map (fun x => V.ref x.1) ++ [.ref xa]) := SqL.of hlwz
      have hTz : SqT K (upd H4 z (.lst [])) xa (wv (k, v, t)) := SqT.of hxz
      obtain ⟨tn, t30⟩ := wok_ne (hO _ hxm)
      dsimp only at tn t30
      obtain ⟨ch, hch⟩ : ∃ ch, t.getLast? = some ch := ⟨t.getLast tn, List.getLast?_eq_some_getLast tn⟩
      have stay : ¬ Back k t → ∃ (e' : Nat), [some (V.ref a), some (V.ref p), some (V.ref lw), v3, v4, v5, some (.str (S (asm is ++ blanks e))), some (V.ref cl), some (V.ref dl), v9, v10, v11, none, none, none] = [some (V.ref a), some (V.ref p), some (V.ref lw), v3, v4, v5, some (.str (S (asm is ++ blanks e'))), some (V.ref cl), some (V.ref dl), v9, v10, v11, none, none, none] ∧ PenAt (upd H4 z (.lst [])) p c 500 ∧ (upd H4 z (.lst [])) dl = some (.lst (dw.map fun x => V.ref x.1)) ∧ DwAt (upd H4 z (.lst [])) dw ∧ e' ≤ 10 ∧ ∀ w ∈ (aw.map (·.2)).getLast?, Back w.1 w.2.2 → e' = 0 := fun nb =>
        ⟨e, rfl, hp4.new nz, kz.lst hdl4, (fun y hy => kz.tup (hdw4 y hy)), he, fun w hw hb => by
          rw [hglast] at hw
          rw [← Option.some.inj hw] at hb
          exact absurd hb nb⟩
      refine ⟨_, rfl, _, rfl, lw, _, _, _, rfl, rfl, hSz, atI_last _ _, xa, _, 0, _, rfl, rfl, hTz, rfl, rfl, _, rfl, ?_⟩
      refine ite2 (fun e1 => ?_) (fun e1 => ?_)
      · have e1' : k = "bad quoted" := V.str.inj (of_decide_eq_true e1)
        refine ⟨_, rfl, _, rfl, lw, _, _, _, rfl, rfl, hSz, atI_last _ _, xa, _, 2, _, rfl, rfl, hTz, rfl, _, rfl, S t, _, ch, rfl, rfl, by rw [S_len]; exact szB (by omega), atI_m1 hch, rfl, _, rfl, ?_⟩
        refine ite2 (fun e2 => ?_) (fun e2 => ?_)
        · have e2' : ch = 92 := of_decide_eq_true ((eq1 ch 92).symm.trans e2)
          obtain ⟨i0, g, u, his⟩ : ∃ i0 g u, is = i0 ++ [(g, u)] := by
            rcases List.eq_nil_or_concat is with h | ⟨b1, b2, h⟩
            · rw [h] at hts
              have := congrArg List.length hts
              rw [List.length_map, List.length_map, h0, List.length_append] at this
              simp at this
            · exact ⟨b1, b2.1, b2.2, by rw [h, List.concat_eq_append]⟩
          have hu : u = t := by
            have h5 := hts
            rw [his, h0, List.map_append, List.map_append] at h5
            have h6 := (List.append_inj' h5 rfl).2
            exact (List.cons.inj h6).1
          have hcz : (upd H4 z (.lst [])) cl = some (.lst ((cols 0 i0).map (fun n : Nat => V.int (n : Int)) ++ [.int ((0 + (asm i0).length + g + 1 : Nat) : Int)])) := by
            rw [kz.lst hcl4, his, cols_snoc, List.map_append]; rfl
          have hlen3 : (asm is).length = (asm i0).length + g + u.length := by
            rw [his, asm_snoc, List.length_append, List.length_append, blanks_len]
          refine ⟨_, rfl, _, rfl, _, rfl, cl, _, _, _, rfl, rfl, SqL.of hcz, atI_last _ _, _, _, rfl, rfl, _, rfl, S (asm is ++ blanks e), rfl, by rw [S_len, List.length_append, blanks_len]; exact szB (by omega), ?_⟩
          have es : Txt.slice (S (asm is ++ blanks e)) none (some (((0 + (asm i0).length + g + 1 : Nat) : Int) - 1)) = S (asm i0 ++ blanks g) := by
            rw [slice_to (by omega), show (((0 + (asm i0).length + g + 1 : Nat) : Int) - 1).toNat = (asm i0 ++ blanks g).length by rw [List.length_append, blanks_len]; omega, his, asm_snoc, List.append_assoc, List.take_left]
          refine ⟨_, rfl, _, rfl, lw, _, _, _, rfl, rfl, hSz, atI_last _ _, xa, _, 2, _, rfl, rfl, hTz, rfl, S (asm i0 ++ blanks g), S t, congrArg V.str es, rfl, by rw [S_len, S_len, List.length_append, blanks_len]; exact szB (by omega), ?_⟩
          rw [S_cat]
          refine ⟨0, ?_, hp4.new nz, kz.lst hdl4, (fun y hy => kz.tup (hdw4 y hy)), Nat.zero_le _, fun _ _ _ => rfl⟩
          rw [his, asm_snoc, hu, show blanks 0 = [] from rfl, List.append_nil]
          rfl
        · have e2' : ¬ ch = 92 := fun zz => e2 ((eq1 ch 92).trans (decide_eq_true zz))
          exact stay fun hb => e2' (by have := hb.2; rw [hch] at this; exact Option.some.inj this)
      · have e1' : ¬ k = "bad quoted" := fun zz => e1 (by show decide (V.str k = _) = true; rw [zz]; exact decide_eq_true rfl)
        exact iteF (stay fun hb => e1' hb.1)
  rintro σ' H5 ⟨e', rfl, hp5, hdl5, hdw5, he', hback⟩
  clear hlw4 hA4 hcl4 hdl4 hdw4 hp4
  -- what line_words finds
  have hlex : Lex (asm is ++ blanks e') 0 (dw.map (·.2)) := by
    rw [hdue]
    exact lex_all (aw.map (·.2)) is [] 0 (by rw [hts, List.map_map]; rfl) hgap hW (fun w hw => by
      obtain ⟨x, hx, rfl⟩ := List.mem_map.mp hw
      exact (wok_ne (hO x hx)).1) hback rfl (Nat.zero_add _)
  have hfine : ∀ x ∈ dw, W3Fine x.2 := fun x hx => due_fine (aw.map (·.2)) is 0 (fun w hw => by
    obtain ⟨y, hy, rfl⟩ := List.mem_map.mp hw
    exact hO y hy) x.2 (by rw [← hdue]; exact List.mem_map_of_mem hx)
  refine ⟨fun σ' H' => ∃ (t : Addr) (as : List Addr), σ' = [some (.ref a), some (.ref p), some (.ref lw), v3, v4, v5, some (.str (S (asm is ++ blanks e'))), some (.ref cl), some (.ref dl), v9, v10, v11, some (.ref t), none, none] ∧ PenAt H' p c 500 ∧ H' dl = some (.lst (dw.map fun x => V.ref x.1)) ∧ DwAt H' dw ∧ H' t = some (.tup (as.map V.ref)) ∧ Paired (fun a w => H' a = some (.tup (w3V w))) as (dw.map (·.2)), ?_, ?_⟩
  · refine ⟨_, rfl, asm is ++ blanks e', rfl, by rw [List.length_append, blanks_len]; omega, fun H6 t as ws s6 ht hP hL => ?_⟩
    rw [lex_det hL hlex] at hP
    exact ⟨t, as, rfl, hp5.same s6, s6 _ _ hdl5, (fun x hx => s6 _ _ (hdw5 x hx)), ht, hP⟩
  rintro σ' H6 ⟨t, as, rfl, hp6, hdl6, hdw6, ht6, hP6⟩
  refine ⟨fun σ' H' => σ' = [some (.ref a), some (.ref p), some (.ref lw), v3, v4, v5, some (.str (S (asm is ++ blanks e'))), some (.ref cl), some (.ref dl), v9, v10, v11, some (.ref t), none, none] ∧ PenAt H' p c 500, ?_, ?_⟩
  · refine ⟨_, rfl, _, _, .type "tuple", .type "tuple", true, rfl, .ty "tuple", .base (.tup ht6), kit_ty (by decide +kernel), true, rfl, ?_⟩
    refine iteF ?_
    refine ⟨_, rfl, t, _, rfl, .inr (SqT.of ht6), fun l nl => ⟨_, rfl, ?_⟩⟩
    have kl : Ks H6 (upd H6 l (.lst (as.map V.ref))) := Ks.new1 nl _
    have hP7 : Paired (fun a w => (upd H6 l (.lst (as.map V.ref))) a = some (.tup (w3V w))) as (dw.map (·.2)) := Paired.mapP hP6 fun a w h => kl.tup h
    have hws : ∀ w ∈ dw.map (·.2), W3Fine w := fun w hw => by
      obtain ⟨x, hx, rfl⟩ := List.mem_map.mp hw
      exact hfine x hx
    have hsh : SeqAt.shaped (.list ((dw.map (·.2)).map w3D)) = true := shaped_list (fun d hd => by
      obtain ⟨w, hw, rfl⟩ := List.mem_map.mp hd
      exact w3D_lay (hws w hw))
    refine ⟨_, _, .lst (SqL.of upd_same) (w3s_dp hP7 hws), .lst (SqL.of (kl.lst hdl6)) (dw_dp (fun x hx => kl.tup (hdw6 x hx)) hfine), hsh, hsh, _, rfl, ?_⟩
    have he7 : PyData.eqv (.list ((dw.map (·.2)).map w3D)) (.list ((dw.map (·.2)).map w3D)) = true := SeqAt.eqv_refl _ (SeqAt.canLay_of_shaped hsh)
    rw [he7]
    refine iteF ?_
    exact ⟨rfl, hp6.new nl⟩
  rintro σ' H7 ⟨rfl, hp7⟩
  -- quoted texts are read back
  refine ⟨_, rfl, p, c, 500, 0, 30, false, rfl, hp7, by omega, by decide, by decide, fun H8 w k8 p8 l1 l2 hw => ?_⟩
  have ql := quote_len w
  refine ⟨_, rfl, w, rfl, by omega, fun H9 s9 => ⟨_, rfl, w, rfl, by omega, rfl, true, congrArg V.bl (decide_eq_true rfl), ?_⟩⟩
  refine iteT ?_
  refine ⟨_, rfl, w, rfl, by omega, fun H10 s10 => ⟨quoteL w, rfl, by omega, fun H11 t2 as2 ws2 s11 ht2 hP2 hL2 => ?_⟩⟩
  rw [lex_det hL2 (lex_quoted hw)] at hP2
  refine ⟨_, rfl, sz_3, fun z1 nz1 => ⟨sz_1, fun z2 nz2 => ?_⟩⟩
  have f1 : W3Fine (("quoted", V.str (S w), 1) : W3) := ⟨(by decide +kernel : PyData.strOk "quoted" = true), .inr ⟨w, rfl, signs_lt hw⟩⟩
  have f2 : ∀ x ∈ [((("quoted", V.str (S w), 1) : W3))], W3Fine x := fun x hx => by rw [List.mem_singleton.mp hx]; exact f1
  have hsh : SeqAt.shaped (.tuple ([((("quoted", V.str (S w), 1) : W3))].map w3D)) = true := shaped_tuple (fun d hd => by
    obtain ⟨x, hx, rfl⟩ := List.mem_map.mp hd
    exact w3D_lay (f2 x hx))
  have k12 : Ks H11 (upd (upd H11 z1 (.tup [.str "quoted", .str (S w), .int 1])) z2 (.tup [.ref z1])) := (Ks.new1 nz1 _).new nz2 _
  have hP3 : Paired (fun a x => (upd (upd H11 z1 (.tup [.str "quoted", .str (S w), .int 1])) z2 (.tup [.ref z1])) a = some (.tup (w3V x))) as2 [((("quoted", V.str (S w), 1) : W3))] := Paired.mapP hP2 fun a x h => k12.tup h
  have hz1 : (upd (upd H11 z1 (.tup [.str "quoted", .str (S w), .int 1])) z2 (.tup [.ref z1])) z1 = some (.tup (w3V (("quoted", V.str (S w), 1) : W3))) := by
    rw [upd_ne (ne_of_none upd_same nz2), upd_same]; rfl
  refine ⟨_, _, .tup (SqT.of (k12.tup ht2)) (w3s_dp hP3 f2), .tup (xs := [.ref z1]) (ds := [((("quoted", V.str (S w), 1) : W3))].map w3D) (SqT.of upd_same) (.cons (w3_dp hz1 f1) .nil), hsh, hsh, ?_⟩
  have he7 : PyData.eqv (.tuple ([((("quoted", V.str (S w), 1) : W3))].map w3D)) (.tuple ([((("quoted", V.str (S w), 1) : W3))].map w3D)) = true := SeqAt.eqv_refl _ (SeqAt.canLay_of_shaped hsh)
  rw [he7]
  exact q _

end
end Vf

set_option maxRecDepth 100000
set_option maxHeartbeats 4000000
namespace Vf
open PySem PySem.Spec PyProof.Rows L2 SX
/-- a def of the module with how its arguments bind -/
def Dn (K : PySem.W.Frag) (mg : Str → Option Value) (x : Str) (st : Stmt) (ps : List Str) : Prop := ∃ (f : Addr) (fd : FuncData), C8.Def K mg x st f fd ∧ Binds K fd ps []
theorem useIt {A B : Prop} (h : A) (k : A → B) : B := k h
theorem useT {K : PySem.W.Frag} {h : Heap} {w : World} {mg : Str → Option Value} {B : Prop} (X : K.In h) (T : Tx K w mg) (k : Tx K w mg → B) : B := k T
section
variable {K : PySem.W.Frag} {h : Heap} {mg : Str → Option Value} {x : Str} {st : Stmt} {ps : List Str} {f d : Addr} {od an : Option Addr} {sl : Array (Option Value)} {oc kV dc pm cd ct : Value} {t : Tok} {w : World}
theorem dn_mk (X : K.In h) (G : h.Ns mainGlobals mg) (a : PySem.W.nsIn K mainGlobals x = some (some (.ref f)))
    (l : K.lookup f = some ⟨oc, od, .func (PySem.W.fnOf x x (C8.fnArgs st) (C8.fnBody st) (C8.fnScope st) .none kV dc pm an cd ct), sl⟩) (c : PySem.W.codeIn K cd x = true) (k : PySem.W.keepIn K (.ref f) = true)
    (hb : ∀ (kV doc pm : Value) (an : Option Addr) (cdv ct : Value) (us : List Value), us.length = ps.length → bindArgs (PySem.W.fnOf x x (C8.fnArgs st) (C8.fnBody st) (C8.fnScope st) .none kV doc pm an cdv ct) ⟨us, []⟩ = pure (ps.zip us)) : Dn K mg x st ps := by
  have F : C8.Fun K x x st f (PySem.W.fnOf x x (C8.fnArgs st) (C8.fnBody st) (C8.fnScope st) .none kV dc pm an cd ct) := ⟨oc, od, .none, kV, dc, pm, an, cd, ct, sl, rfl, l, c⟩
  exact ⟨f, _, ⟨F, PySem.W.mg_of X G a, k⟩, F.binds rfl hb⟩
theorem cst_str {n y : Str} {z : List Nat} (X : K.In h) (G : h.Ns mainGlobals mg) (a : PySem.W.nsIn K mainGlobals n = some (some (.str y t))) (e : y = S z) : ∃ u, mg n = some u ∧ RelV (.str (S z)) u :=
  ⟨_, PySem.W.mg_of X G a, ⟨t, by rw [e]⟩⟩
theorem cst_int {n : Str} {i : Int} (X : K.In h) (G : h.Ns mainGlobals mg) (a : PySem.W.nsIn K mainGlobals n = some (some (.int i t))) : ∃ u, mg n = some u ∧ RelV (.int i) u :=
  ⟨_, PySem.W.mg_of X G a, ⟨t, rfl⟩⟩
theorem cst_kd {n : Str} {es : Array DictEntry} {k : Nat} {g : Str → Option V} (X : K.In h) (G : h.Ns mainGlobals mg) (a : PySem.W.nsIn K mainGlobals n = some (some (.ref d))) (l : K.lookup d = some ⟨.type "dict", none, .dict es k, #[]⟩)
    (hk : PySem.W.KeysLit w.params es.toList) (low : (d == sysModules) = false) (hf : ∀ z, RelO (g z) (findBy Value.isStrOf es z)) : ∃ d, (∃ u, mg n = some u ∧ RelV (.ref d) u) ∧ KD K w d g :=
  ⟨d, ⟨_, PySem.W.mg_of X G a, rfl⟩, es, k, l, hk, low, hf⟩
theorem law_end {P : Program} {fa : Addr} {k : Nat} (X : K.In h) (G : h.Ns mainGlobals mg) (hfa : mg "law" = some (.ref fa)) (a : PySem.W.nsIn K mainGlobals "law" = some (some (.ref f)))
    (l : K.lookup f = some ⟨oc, od, .func (PySem.W.fnOf "law" "law" (C8.fnArgs s_law) (C8.fnBody s_law) (C8.fnScope s_law) .none kV dc pm an cd ct), sl⟩) (c : PySem.W.codeIn K cd "law" = true) (kp : PySem.W.keepIn K (.ref f) = true)
    (ok : ∀ (base : Heap) (fd : FuncData), C8.Def K mg "law" s_law f fd → FnOk P w K mg base C8.CX0 k f fd ["_law_script"] (sp_law K)) :
    ∃ fd : FuncData, (∀ (s : Shared) (v : Value), BindsTo s fd ⟨[v], []⟩ [("_law_script", v)]) ∧ ∀ base : Heap, K.In base → base.Ns mainGlobals mg → FnOk P w K mg base C8.CX0 k fa fd ["_law_script"] (sp_law K) := by
  have e := hfa.symm.trans (PySem.W.mg_of X G a)
  cases e
  exact ⟨_, fun s v => .of_eq rfl, fun base _ _ => ok base _ ⟨⟨oc, od, .none, kV, dc, pm, an, cd, ct, sl, rfl, l, c⟩, PySem.W.mg_of X G a, kp⟩⟩
end
/-- three entries of a dict -/
theorem kd3 {k1 k2 k3 v1 v2 v3 : Str} {h1 h2 h3 : Int} {t1 t2 t3 u1 u2 u3 : Tok} (z : Str) :
    RelO (if z = k1 then some (V.str v1) else if z = k2 then some (.str v2) else if z = k3 then some (.str v3) else none) (findBy Value.isStrOf #[⟨h1, .str k1 t1, .str v1 u1⟩, ⟨h2, .str k2 t2, .str v2 u2⟩, ⟨h3, .str k3 t3, .str v3 u3⟩] z) := by
  unfold findBy
  show RelO _ (([(⟨h1, .str k1 t1, .str v1 u1⟩ : DictEntry), ⟨h2, .str k2 t2, .str v2 u2⟩, ⟨h3, .str k3 t3, .str v3 u3⟩].toArray.find? fun e => Value.isStrOf z e.key).map (·.val))
  rw [List.find?_toArray]
  have q : ∀ (k : Str) (t : Tok), Value.isStrOf z (.str k t) = decide (z = k) := fun k t => by
    show (k == z) = _
    by_cases e : z = k
    · subst e; rw [decide_eq_true rfl]; exact beq_self_eq_true _
    · rw [decide_eq_false e]; exact beq_eq_false_iff_ne.mpr fun y => e y.symm
  by_cases e1 : z = k1
  · rw [if_pos e1, List.find?_cons_of_pos (by show Value.isStrOf z (.str k1 t1) = true; rw [q]; exact decide_eq_true e1)]
    exact ⟨u1, rfl⟩
  · rw [if_neg e1, List.find?_cons_of_neg (by show ¬ Value.isStrOf z (.str k1 t1) = true; rw [q, decide_eq_false e1]; exact Bool.false_ne_true)]
    by_cases e2 : z = k2
    · rw [if_pos e2, List.find?_cons_of_pos (by show Value.isStrOf z (.str k2 t2) = true; rw [q]; exact decide_eq_true e2)]
      exact ⟨u2, rfl⟩
    · rw [if_neg e2, List.find?_cons_of_neg (by show ¬ Value.isStrOf z (.str k2 t2) = true; rw [q, decide_eq_false e2]; exact Bool.false_ne_true)]
      by_cases e3 : z = k3
      · rw [if_pos e3, List.find?_cons_of_pos (by show Value.isStrOf z (.str k3 t3) = true; rw [q]; exact decide_eq_true e3)]
        exact ⟨u3, rfl⟩
      · rw [if_neg e3, List.find?_cons_of_neg (by show ¬ Value.isStrOf z (.str k3 t3) = true; rw [q, decide_eq_false e3]; exact Bool.false_ne_true)]
        exact trivial
theorem all_ok {P : Program} {w : World} {K : PySem.W.Frag} {mg : Str → Option Value} (T : Tx K w mg)
    (d_runEnd : Dn K mg "run_end" s_runEnd ["line", "at", "signs"])
    (d_quotedAt : Dn K mg "quoted_at" s_quotedAt ["line", "at"])
    (d_quotedText : Dn K mg "quoted_text" s_quotedText ["word"])
    (d_pen : Dn K mg "_law_pen" s_pen ["_law_script"])
    (d_draw : Dn K mg "_law_draw" s_draw ["_law_pen_here", "_law_many"])
    (d_quoted : Dn K mg "_law_quoted" s_quoted ["_law_word"])
    (d_allSigns : Dn K mg "_law_all_signs" s_allSigns [])
    (d_numberAt : Dn K mg "number_at" s_numberAt ["line", "at"])
    (d_pick : Dn K mg "_law_pick" s_pick ["_law_pen_here", "_law_some"])
    (d_lineOfWords : Dn K mg "_law_line_of_words" s_lineOfWords ["_law_pen_here", "_law_words"])
    (d_wordAt : Dn K mg "word_at" s_wordAt ["line", "at"])
    (d_anySign : Dn K mg "_law_any_sign" s_anySign ["_law_pen_here", "_law_line"])
    (d_anyName : Dn K mg "_law_any_name" s_anyName ["_law_pen_here"])
    (d_lineWords : Dn K mg "line_words" s_lineWords ["line"])
    (d_anyWord : Dn K mg "_law_any_word" s_anyWord ["_law_pen_here", "_law_least", "_law_most", "_law_line"])
    (d_rightWord : Dn K mg "_law_right_word" s_rightWord ["_law_pen_here"])
    (d_wrongWord : Dn K mg "_law_wrong_word" s_wrongWord ["_law_pen_here"])
    (base : Heap) {f : Addr} {fd : FuncData} (F : C8.Def K mg "law" s_law f fd) : FnOk P w K mg base C8.CX0 6 f fd ["_law_script"] (sp_law K) := by
  obtain ⟨f_runEnd, fd_runEnd, F_runEnd, b_runEnd⟩ := d_runEnd
  have C_runEnd := ok_runEnd (P := P) (base := base) (w := w) F_runEnd b_runEnd T
  obtain ⟨f_quotedAt, fd_quotedAt, F_quotedAt, b_quotedAt⟩ := d_quotedAt
  have C_quotedAt := ok_quotedAt (P := P) (base := base) (w := w) F_quotedAt b_quotedAt T
  obtain ⟨f_quotedText, fd_quotedText, F_quotedText, b_quotedText⟩ := d_quotedText
  have C_quotedText := ok_quotedText (P := P) (base := base) (w := w) F_quotedText b_quotedText T
  obtain ⟨f_pen, fd_pen, F_pen, b_pen⟩ := d_pen
  have C_pen := ok_pen (P := P) (base := base) (w := w) F_pen b_pen T
  obtain ⟨f_draw, fd_draw, F_draw, b_draw⟩ := d_draw
  have C_draw := ok_draw (P := P) (base := base) (w := w) F_draw b_draw T
  obtain ⟨f_quoted, fd_quoted, F_quoted, b_quoted⟩ := d_quoted
  have C_quoted := ok_quoted (P := P) (base := base) (w := w) F_quoted b_quoted
  obtain ⟨f_allSigns, fd_allSigns, F_allSigns, b_allSigns⟩ := d_allSigns
  have C_allSigns := ok_allSigns (P := P) (base := base) (w := w) F_allSigns b_allSigns T
  obtain ⟨f_numberAt, fd_numberAt, F_numberAt, b_numberAt⟩ := d_numberAt
  have C_numberAt := ok_numberAt (P := P) (base := base) (w := w) F_numberAt b_numberAt T C_runEnd
  obtain ⟨f_pick, fd_pick, F_pick, b_pick⟩ := d_pick
  have C_pick := ok_pick (P := P) (base := base) (w := w) F_pick b_pick T C_draw
  obtain ⟨f_lineOfWords, fd_lineOfWords, F_lineOfWords, b_lineOfWords⟩ := d_lineOfWords
  have C_lineOfWords := ok_lineOfWords (P := P) (base := base) (w := w) F_lineOfWords b_lineOfWords T C_draw
  obtain ⟨f_wordAt, fd_wordAt, F_wordAt, b_wordAt⟩ := d_wordAt
  have C_wordAt := ok_wordAt (P := P) (base := base) (w := w) F_wordAt b_wordAt T C_runEnd C_numberAt C_quotedAt
  obtain ⟨f_anySign, fd_anySign, F_anySign, b_anySign⟩ := d_anySign
  have C_anySign := ok_anySign (P := P) (base := base) (w := w) F_anySign b_anySign T C_draw C_pick C_allSigns
  obtain ⟨f_anyName, fd_anyName, F_anyName, b_anyName⟩ := d_anyName
  have C_anyName := ok_anyName (P := P) (base := base) (w := w) F_anyName b_anyName T C_draw C_pick
  obtain ⟨f_lineWords, fd_lineWords, F_lineWords, b_lineWords⟩ := d_lineWords
  have C_lineWords := ok_lineWords (P := P) (base := base) (w := w) F_lineWords b_lineWords T C_wordAt
  obtain ⟨f_anyWord, fd_anyWord, F_anyWord, b_anyWord⟩ := d_anyWord
  have C_anyWord := ok_anyWord (P := P) (base := base) (w := w) F_anyWord b_anyWord T C_draw C_anySign
  obtain ⟨f_rightWord, fd_rightWord, F_rightWord, b_rightWord⟩ := d_rightWord
  have C_rightWord := ok_rightWord (P := P) (base := base) (w := w) F_rightWord b_rightWord T C_draw C_anyName C_anyWord C_quoted C_pick
  obtain ⟨f_wrongWord, fd_wrongWord, F_wrongWord, b_wrongWord⟩ := d_wrongWord
  have C_wrongWord := ok_wrongWord (P := P) (base := base) (w := w) F_wrongWord b_wrongWord T C_draw C_quoted C_anyWord C_pick
  exact ok_law F T C_pen C_draw C_rightWord C_wrongWord C_lineOfWords C_lineWords C_anyWord C_quotedText C_quoted
end Vf
open PySem PySem.W PyProof.Rows
set_option maxRecDepth 100000 in
set_option maxHeartbeats 0 in
theorem PySem.Challenge.cw_textworkshop_k33_words_of_lines_holds : PySem.Challenge.rw_textworkshop_k33_words_of_lines.Holds := by
  w_on; o_law; k_head; (case hw => w_witness2)
  k_fill
  refine L2.walk_of (l := PySem.Challenge.rw_textworkshop_k33_words_of_lines) (n := 63) (k := 6) (x := "_law_script") (CX := fun _ => C8.CX0) (sp := fun w => Vf.sp_law _) rfl (by decide) rfl ⟨rfl, by decide, by decide⟩ (fun w h Y => PySem.W.kIn_of Y) ?F (fun _ _ a ns hl _ hS => ⟨a, ns, rfl, hS, hl, fun _ => rfl⟩) (fun _ _ _ _ _ h => h)
  case F =>
    intro w mg fa h KX G hmg
    refine' Vf.useIt (Vf.dn_mk (x := "run_end") (st := Vf.s_runEnd) (ps := ["line", "at", "signs"]) KX G ?a ?l ?c ?k (fun _ _ _ _ _ _ us hl => match us, hl with | [_, _, _], _ => rfl)) (fun d_runEnd => ?_)
    (case a => k_is); (case l => k_is); (case c => k_is); (case k => k_is)
    refine' Vf.useIt (Vf.dn_mk (x := "quoted_at") (st := Vf.s_quotedAt) (ps := ["line", "at"]) KX G ?a ?l ?c ?k (fun _ _ _ _ _ _ us hl => match us, hl with | [_, _], _ => rfl)) (fun d_quotedAt => ?_)
    (case a => k_is); (case l => k_is); (case c => k_is); (case k => k_is)
    refine' Vf.useIt (Vf.dn_mk (x := "quoted_text") (st := Vf.s_quotedText) (ps := ["word"]) KX G ?a ?l ?c ?k (fun _ _ _ _ _ _ us hl => match us, hl with | [_], _ => rfl)) (fun d_quotedText => ?_)
    (case a => k_is); (case l => k_is); (case c => k_is); (case k => k_is)
    refine' Vf.useIt (Vf.dn_mk (x := "_law_pen") (st := Vf.s_pen) (ps := ["_law_script"]) KX G ?a ?l ?c ?k (fun _ _ _ _ _ _ us hl => match us, hl with | [_], _ => rfl)) (fun d_pen => ?_)
    (case a => k_is); (case l => k_is); (case c => k_is); (case k => k_is)
    refine' Vf.useIt (Vf.dn_mk (x := "_law_draw") (st := Vf.s_draw) (ps := ["_law_pen_here", "_law_many"]) KX G ?a ?l ?c ?k (fun _ _ _ _ _ _ us hl => match us, hl with | [_, _], _ => rfl)) (fun d_draw => ?_)
    (case a => k_is); (case l => k_is); (case c => k_is); (case k => k_is)
    refine' Vf.useIt (Vf.dn_mk (x := "_law_quoted") (st := Vf.s_quoted) (ps := ["_law_word"]) KX G ?a ?l ?c ?k (fun _ _ _ _ _ _ us hl => match us, hl with | [_], _ => rfl)) (fun d_quoted => ?_)
    (case a => k_is); (case l => k_is); (case c => k_is); (case k => k_is)
    refine' Vf.useIt (Vf.dn_mk (x := "_law_all_signs") (st := Vf.s_allSigns) (ps := []) KX G ?a ?l ?c ?k (fun _ _ _ _ _ _ us hl => match us, hl with | [], _ => rfl)) (fun d_allSigns => ?_)
    (case a => k_is); (case l => k_is); (case c => k_is); (case k => k_is)
    refine' Vf.useIt (Vf.dn_mk (x := "number_at") (st := Vf.s_numberAt) (ps := ["line", "at"]) KX G ?a ?l ?c ?k (fun _ _ _ _ _ _ us hl => match us, hl with | [_, _], _ => rfl)) (fun d_numberAt => ?_)
    (case a => k_is); (case l => k_is); (case c => k_is); (case k => k_is)
    refine' Vf.useIt (Vf.dn_mk (x := "_law_pick") (st := Vf.s_pick) (ps := ["_law_pen_here", "_law_some"]) KX G ?a ?l ?c ?k (fun _ _ _ _ _ _ us hl => match us, hl with | [_, _], _ => rfl)) (fun d_pick => ?_)
    (case a => k_is); (case l => k_is); (case c => k_is); (case k => k_is)
    refine' Vf.useIt (Vf.dn_mk (x := "_law_line_of_words") (st := Vf.s_lineOfWords) (ps := ["_law_pen_here", "_law_words"]) KX G ?a ?l ?c ?k (fun _ _ _ _ _ _ us hl => match us, hl with | [_, _], _ => rfl)) (fun d_lineOfWords => ?_)
    (case a => k_is); (case l => k_is); (case c => k_is); (case k => k_is)
    refine' Vf.useIt (Vf.dn_mk (x := "word_at") (st := Vf.s_wordAt) (ps := ["line", "at"]) KX G ?a ?l ?c ?k (fun _ _ _ _ _ _ us hl => match us, hl with | [_, _], _ => rfl)) (fun d_wordAt => ?_)
    (case a => k_is); (case l => k_is); (case c => k_is); (case k => k_is)
    refine' Vf.useIt (Vf.dn_mk (x := "_law_any_sign") (st := Vf.s_anySign) (ps := ["_law_pen_here", "_law_line"]) KX G ?a ?l ?c ?k (fun _ _ _ _ _ _ us hl => match us, hl with | [_, _], _ => rfl)) (fun d_anySign => ?_)
    (case a => k_is); (case l => k_is); (case c => k_is); (case k => k_is)
    refine' Vf.useIt (Vf.dn_mk (x := "_law_any_name") (st := Vf.s_anyName) (ps := ["_law_pen_here"]) KX G ?a ?l ?c ?k (fun _ _ _ _ _ _ us hl => match us, hl with | [_], _ => rfl)) (fun d_anyName => ?_)
    (case a => k_is); (case l => k_is); (case c => k_is); (case k => k_is)
    refine' Vf.useIt (Vf.dn_mk (x := "line_words") (st := Vf.s_lineWords) (ps := ["line"]) KX G ?a ?l ?c ?k (fun _ _ _ _ _ _ us hl => match us, hl with | [_], _ => rfl)) (fun d_lineWords => ?_)
    (case a => k_is); (case l => k_is); (case c => k_is); (case k => k_is)
    refine' Vf.useIt (Vf.dn_mk (x := "_law_any_word") (st := Vf.s_anyWord) (ps := ["_law_pen_here", "_law_least", "_law_most", "_law_line"]) KX G ?a ?l ?c ?k (fun _ _ _ _ _ _ us hl => match us, hl with | [_, _, _, _], _ => rfl)) (fun d_anyWord => ?_)
    (case a => k_is); (case l => k_is); (case c => k_is); (case k => k_is)
    refine' Vf.useIt (Vf.dn_mk (x := "_law_right_word") (st := Vf.s_rightWord) (ps := ["_law_pen_here"]) KX G ?a ?l ?c ?k (fun _ _ _ _ _ _ us hl => match us, hl with | [_], _ => rfl)) (fun d_rightWord => ?_)
    (case a => k_is); (case l => k_is); (case c => k_is); (case k => k_is)
    refine' Vf.useIt (Vf.dn_mk (x := "_law_wrong_word") (st := Vf.s_wrongWord) (ps := ["_law_pen_here"]) KX G ?a ?l ?c ?k (fun _ _ _ _ _ _ us hl => match us, hl with | [_], _ => rfl)) (fun d_wrongWord => ?_)
    (case a => k_is); (case l => k_is); (case c => k_is); (case k => k_is)
    refine' Vf.useT (w := w) KX ⟨PySem.W.mg_none_of KX G ?z_len, PySem.W.mg_none_of KX G ?z_tuple, PySem.W.mg_none_of KX G ?z_int, PySem.W.mg_none_of KX G ?z_list, PySem.W.mg_none_of KX G ?z_range, PySem.W.mg_none_of KX G ?z_max, PySem.W.mg_none_of KX G ?z_str, PySem.W.mg_none_of KX G ?z_zip, PySem.W.mg_none_of KX G ?z_isinstance, Vf.cst_str KX G ?a_SIGNS ?e_SIGNS, Vf.cst_str KX G ?a_LETTERS ?e_LETTERS, Vf.cst_str KX G ?a_FIGURES ?e_FIGURES, Vf.cst_int KX G ?a_MOST_FIGURES, Vf.cst_kd KX G ?a_MEANINGS ?l_MEANINGS ?k_MEANINGS ?w_MEANINGS ?f_MEANINGS, Vf.cst_kd KX G ?a_ESCAPES ?l_ESCAPES ?k_ESCAPES ?w_ESCAPES ?f_ESCAPES⟩ (fun T => ?_)
    (case z_len => k_is)
    (case z_tuple => k_is)
    (case z_int => k_is)
    (case z_list => k_is)
    (case z_range => k_is)
    (case z_max => k_is)
    (case z_str => k_is)
    (case z_zip => k_is)
    (case z_isinstance => k_is)
    (case a_SIGNS => k_is)
    (case e_SIGNS => decide +kernel)
    (case a_LETTERS => k_is)
    (case e_LETTERS => decide +kernel)
    (case a_FIGURES => k_is)
    (case e_FIGURES => decide +kernel)
    (case a_MOST_FIGURES => k_is)
    (case a_MEANINGS => k_is)
    (case l_MEANINGS => k_is)
    (case k_MEANINGS => exact ⟨⟨_, _, rfl, rfl⟩, ⟨⟨_, _, rfl, rfl⟩, ⟨⟨_, _, rfl, rfl⟩, trivial⟩⟩⟩)
    (case w_MEANINGS => decide)
    (case f_MEANINGS => exact Vf.kd3)
    (case a_ESCAPES => k_is)
    (case l_ESCAPES => k_is)
    (case k_ESCAPES => exact ⟨⟨_, _, rfl, rfl⟩, ⟨⟨_, _, rfl, rfl⟩, ⟨⟨_, _, rfl, rfl⟩, trivial⟩⟩⟩)
    (case w_ESCAPES => decide)
    (case f_ESCAPES => exact Vf.kd3)
    refine' Vf.law_end KX G hmg ?a ?l ?c ?k (fun base fd F => Vf.all_ok T d_runEnd d_quotedAt d_quotedText d_pen d_draw d_quoted d_allSigns d_numberAt d_pick d_lineOfWords d_wordAt d_anySign d_anyName d_lineWords d_anyWord d_rightWord d_wrongWord base F)
    (case a => k_is); (case l => k_is); (case c => k_is); (case k => k_is)
