import PyProof.Rows.All
import Wide.All
import OpenK.AllK
import Wide.FinOn
import HandS.ForMost
import HandS.Codes
import HandS.Wide
import HandS.ReplaceLit
import HandS.ReplaceDef
import HandS.IsInst
import HandS.More
import HandS.StrMore
import HandS.Flow
import HandS.Zip
import HandS.ExcInit
import HandS.ExcField
import HandS.ExcIs
import HandS.ExcOwn
import HandS.ExcValue
import HandS.TryMany
import HandS.OwnEq
import HandS.FStr
import HandS.Star
import HandS.WordsExc
import PyProof.InstNe
import HandS.RaiseMore
import HandS.Lambda
import HandS.EndTab
import KE.KNest
import HandS.Walk
import HandS.Style
import HandS.Deep
import HandS.Defaults
import PySem.Challenge.RW_textworkshop_k26_line_tests
set_option Elab.async false
set_option linter.all false
set_option maxRecDepth 100000
set_option maxHeartbeats 4000000
namespace Vf
open PySem PySem.Spec PyProof.Rows L2 SX

/-! ### heaps: all but dicts stays -/
def Ks (H H' : Hp) : Prop := (∀ b o, H b = some o → (∀ kvs, o ≠ .dK kvs) → H' b = some o) ∧ ∀ b, H' b = none → H b = none
def Tk (H H' : Hp) : Prop := ∀ b xs, H b = some (.tup xs) → H' b = some (.tup xs)
section
variable {K : PySem.W.Frag} {H H1 H2 H0 : Hp} {a p q : Addr} {xs : List V} {o : HO}
theorem Ks.refl (H : Hp) : Ks H H := ⟨fun _ _ h _ => h, fun _ h => h⟩
theorem Ks.trans (a : Ks H H1) (b : Ks H1 H2) : Ks H H2 := ⟨fun c o h n => b.1 c o (a.1 c o h n) n, fun c h => a.2 c (b.2 c h)⟩
theorem Ks.of (s : Same H H1) : Ks H H1 := ⟨fun b o h _ => s b o h, fun b h => s.free h⟩
theorem Ks.tk (s : Ks H H1) : Tk H H1 := fun b xs h => s.1 b _ h (fun _ e => nomatch e)
theorem Ks.lst (s : Ks H H1) (h : H a = some (.lst xs)) : H1 a = some (.lst xs) := s.1 a _ h (fun _ e => nomatch e)
theorem Ks.tup (s : Ks H H1) (h : H a = some (.tup xs)) : H1 a = some (.tup xs) := s.1 a _ h (fun _ e => nomatch e)
theorem Ks.seq (s : Ks H H1) (h : SqL K H a xs) : SqL K H1 a xs := by
  rcases h with (h | ⟨o, h⟩) | h
  · exact .inl (.inl (s.1 _ _ h (fun _ e => nomatch e)))
  · exact .inl (.inr ⟨o, s.1 _ _ h (fun _ e => nomatch e)⟩)
  · exact .inr h
theorem Ks.seqT (s : Ks H H1) (h : SqT K H a xs) : SqT K H1 a xs := by
  rcases h with (h | ⟨o, h⟩) | h
  · exact .inl (.inl (s.1 _ _ h (fun _ e => nomatch e)))
  · exact .inl (.inr ⟨o, s.1 _ _ h (fun _ e => nomatch e)⟩)
  · exact .inr h
theorem Ks.free (s : Ks H H1) (h : H1 a = none) : H a = none := s.2 a h
theorem Ks.upd (s : Ks H0 H) (h : H0 p = none) (o : HO) : Ks H0 (upd H p o) := ⟨fun b u e n => by
  rw [upd_ne (ne_of_none e h)]
  exact s.1 b u e n, fun b e => by
  by_cases z : b = p
  · rw [z]; exact h
  · rw [upd_ne z] at e
    exact s.2 b e⟩
theorem Ks.new (s : Ks H0 H) (h : H p = none) (o : HO) : Ks H0 (L2.upd H p o) := s.upd (s.free h) o
theorem Ks.new1 (h : H p = none) (o : HO) : Ks H (L2.upd H p o) := (Ks.refl H).upd h o
theorem Ks.dict {kvs kvs' : List (Key × V)} (h : H p = some (.dK kvs)) : Ks H (L2.upd H p (.dK kvs')) := ⟨fun b u e n => by
  rw [upd_ne (fun z => by rw [z, h] at e; exact n kvs (Option.some.inj e).symm)]
  exact e, fun b e => by
  by_cases z : b = p
  · rw [z, upd_same] at e; cases e
  · rw [upd_ne z] at e; exact e⟩
theorem Tk.refl (H : Hp) : Tk H H := fun _ _ h => h
theorem Tk.trans (a : Tk H H1) (b : Tk H1 H2) : Tk H H2 := fun c xs h => b c xs (a c xs h)
theorem Tk.lst {ys : List V} (s : Tk H0 H) (h : H p = some (.lst ys)) : Tk H0 (L2.upd H p o) := fun b zs e => by
  have e1 := s b zs e
  rw [upd_ne (fun z => by rw [z, h] at e1; cases e1)]
  exact e1
theorem Tk.new (s : Tk H0 H) (h : H p = none) : Tk H0 (L2.upd H p o) := fun b zs e => by
  have e1 := s b zs e
  rw [upd_ne (ne_of_none e1 h)]
  exact e1
end
theorem szB {n : Nat} (h : n ≤ 1000000) : n ≤ sizeLine := Nat.le_trans h (by decide)
theorem szL {n : Nat} (h : n ≤ 1000000) : n < sizeLine := Nat.lt_of_le_of_lt h (by decide)
theorem sz24 {n : Nat} (h : n ≤ 1000000) : n ≤ 16777216 := Nat.le_trans h (by decide)

def signsL : List Nat := [10, 32, 33, 34, 35, 36, 38, 39, 40, 41, 42, 43, 44, 45, 46, 47, 48, 49, 50, 51, 52, 53, 54, 55, 56, 57, 58, 59, 60, 61, 62, 63, 64, 65, 66, 67, 68, 69, 70, 71, 72, 73, 74, 75, 76, 77, 78, 79, 80, 81, 82, 83, 84, 85, 86, 87, 88, 89, 90, 91, 92, 93, 94, 95, 96, 97, 98, 99, 100, 101, 102, 103, 104, 105, 106, 107, 108, 109, 110, 111, 112, 113, 114, 115, 116, 117, 118, 119, 120, 121, 122, 123, 124, 125, 126]
def lowL : List Nat := [97, 98, 99, 100, 101, 102, 103, 104, 105, 106, 107, 108, 109, 110, 111, 112, 113, 114, 115, 116, 117, 118, 119, 120, 121, 122]
def figL : List Nat := [48, 49, 50, 51, 52, 53, 54, 55, 56, 57]
/-! ### the pen: a dict of five entries -/
def pk (c : Addr) (at_ d ct fo : Int) : List (Key × V) := [(.inr "cells", .ref c), (.inr "at", .int at_), (.inr "digits", .int d), (.inr "count", .int ct), (.inr "fold", .int fo)]
def PenAt (H : Hp) (p c : Addr) (m : Nat) : Prop := ∃ (ns : List Int) (at_ d ct fo : Int), H p = some (.dK (pk c at_ d ct fo)) ∧ H c = some (.lst (ns.map V.int)) ∧ ns.length ≤ 63 ∧
  0 ≤ at_ ∧ 0 ≤ d ∧ 0 ≤ ct ∧ ct ≤ (m : Int) ∧ 0 ≤ fo ∧ fo < 2147483648
section
variable {H H1 : Hp} {p c q : Addr} {m n : Nat} {o : HO}
theorem PenAt.mono (h : PenAt H p c m) (l : m ≤ n) : PenAt H p c n := by
  obtain ⟨ns, a, d, t, f, h1, h2, h3, h4, h5, h6, h7, h8, h9⟩ := h
  exact ⟨ns, a, d, t, f, h1, h2, h3, h4, h5, h6, by omega, h8, h9⟩
theorem PenAt.upd (h : PenAt H p c m) (n1 : q ≠ p) (n2 : q ≠ c) : PenAt (L2.upd H q o) p c m := by
  obtain ⟨ns, a, d, t, f, h1, h2, r⟩ := h
  exact ⟨ns, a, d, t, f, by rw [upd_ne n1.symm]; exact h1, by rw [upd_ne n2.symm]; exact h2, r⟩
theorem PenAt.ne (h : PenAt H p c m) (e : H q = none) : q ≠ p ∧ q ≠ c := by
  obtain ⟨ns, a, d, t, f, h1, h2, r⟩ := h
  exact ⟨(ne_of_none h1 e).symm, (ne_of_none h2 e).symm⟩
theorem PenAt.new (h : PenAt H p c m) (e : H q = none) : PenAt (L2.upd H q o) p c m := h.upd (h.ne e).1 (h.ne e).2
theorem PenAt.same (h : PenAt H p c m) (s : Same H H1) : PenAt H1 p c m := by
  obtain ⟨ns, a, d, t, f, h1, h2, r⟩ := h
  exact ⟨ns, a, d, t, f, s _ _ h1, s _ _ h2, r⟩
end

section
variable {H : Hp} {p c : Addr} {a d t f z : Int}
theorem pg_cells (h : H p = some (.dK (pk c a d t f))) : DGet H p (.str "cells") (some (.ref c)) := .inl ⟨_, Sum.inr "cells", .inl h, rfl, rfl⟩
theorem pg_at (h : H p = some (.dK (pk c a d t f))) : DGet H p (.str "at") (some (.int a)) := .inl ⟨_, Sum.inr "at", .inl h, rfl, rfl⟩
theorem pg_digits (h : H p = some (.dK (pk c a d t f))) : DGet H p (.str "digits") (some (.int d)) := .inl ⟨_, Sum.inr "digits", .inl h, rfl, rfl⟩
theorem pg_count (h : H p = some (.dK (pk c a d t f))) : DGet H p (.str "count") (some (.int t)) := .inl ⟨_, Sum.inr "count", .inl h, rfl, rfl⟩
theorem pg_fold (h : H p = some (.dK (pk c a d t f))) : DGet H p (.str "fold") (some (.int f)) := .inl ⟨_, Sum.inr "fold", .inl h, rfl, rfl⟩
theorem pp_at (h : H p = some (.dK (pk c a d t f))) : DPut H p (.str "at") (.int z) (upd H p (.dK (pk c z d t f))) := .inl ⟨_, Sum.inr "at", h, rfl, szL (by show 5 ≤ 1000000; decide), rfl⟩
theorem pp_digits (h : H p = some (.dK (pk c a d t f))) : DPut H p (.str "digits") (.int z) (upd H p (.dK (pk c a z t f))) := .inl ⟨_, Sum.inr "digits", h, rfl, szL (by show 5 ≤ 1000000; decide), rfl⟩
theorem pp_count (h : H p = some (.dK (pk c a d t f))) : DPut H p (.str "count") (.int z) (upd H p (.dK (pk c a d z f))) := .inl ⟨_, Sum.inr "count", h, rfl, szL (by show 5 ≤ 1000000; decide), rfl⟩
theorem pp_fold (h : H p = some (.dK (pk c a d t f))) : DPut H p (.str "fold") (.int z) (upd H p (.dK (pk c a d t z))) := .inl ⟨_, Sum.inr "fold", h, rfl, szL (by show 5 ≤ 1000000; decide), rfl⟩
end

theorem ix_tupK {X : Cx} {K : PySem.W.Frag} (hK : X.K = K) : IxR X (rIxT K) := by subst hK; exact ix_tup
theorem ix_listK {X : Cx} {K : PySem.W.Frag} (hK : X.K = K) : IxR X (rIxL K) := by subst hK; exact ix_list
theorem ix_seqK {X : Cx} {K : PySem.W.Frag} (hK : X.K = K) : IxR X (rIx K) := by subst hK; exact ix_seq
theorem op_in_seqK {X : Cx} {K : PySem.W.Frag} (hK : X.K = K) : OpR X (compareOp .In) (rIn K false) := by subst hK; exact op_in_seq
theorem pe_c0 {X : Cx} {k j : Nat} {x : Str} {sp : Sp} {dvs : List V} {p pos : Pos} (c : C8.Cal X.prog X.w X.K X.mg X.base k x sp dvs) (hr : Room j X.A) (hk : k ≤ j) (hg : Gl X x) (hdb : (x == ("__debug__" : Str)) = false := by decide) :
    PE X (.Call (.Name x p) [] [] pos) (tCall sp dvs C8.E0 tNil) := by
  obtain ⟨f, fd, ps, ds, F, hm, kp, b, d⟩ := c.ex
  exact pe_call0 F (hr.mono hk) hg hm kp b d C8.pass0 hdb

/-! ### '..' * n -/
def repL (n : Nat) (l : List Nat) : List Nat := (List.replicate n l).flatten
theorem rep_nil : ∀ n : Nat, repL n [] = []
  | 0 => rfl
  | n + 1 => rep_nil n
theorem rep_len (l : List Nat) : ∀ n : Nat, (repL n l).length = n * l.length
  | 0 => by rw [Nat.zero_mul]; rfl
  | n + 1 => by
    show (l ++ repL n l).length = _
    rw [List.length_append, rep_len l n, Nat.succ_mul, Nat.add_comm]
theorem fold_rep (l acc : List Nat) : ∀ n : Nat, ((List.replicate n l.toArray).foldl (· ++ ·) acc.toArray) = (acc ++ repL n l).toArray
  | 0 => by
    show acc.toArray = (acc ++ []).toArray
    rw [List.append_nil]
  | n + 1 => by
    rw [List.replicate_succ, List.foldl_cons]
    rw [List.append_toArray acc l, fold_rep l (acc ++ l) n]
    unfold repL
    rw [List.replicate_succ, List.flatten_cons, List.append_assoc]
theorem op_rep_str {X : Cx} : OpR X (binaryOp .Mult) (fun x y H Q => ∃ (l : List Nat) (n : Nat), x = .str (S l) ∧ y = .int (n : Int) ∧ n ≤ 1000000 ∧ l.length * n ≤ 1000000 ∧ Q (.str (S (repL n l))) H) := by
  intro pins s σ H x y v u Q I rx ry h
  obtain ⟨l, n, rfl, rfl, hn, hl, q⟩ := h
  obtain ⟨t, rfl⟩ := rx
  obtain ⟨t', rfl⟩ := ry
  have e63 : (2 : Int) ^ 63 = 9223372036854775808 := by decide
  refine PySem.P.mul_str ?_ ?_ ?_ ?_
  · rw [decide_eq_false (by omega), decide_eq_false (by omega)]; rfl
  · intro h1 h2
    rw [S_len]
    have h3 : (1 : Int) ≤ n := by omega
    have h4 : (l.length : Int) * n ≤ 1000000 := by (rw [← Int.natCast_mul]; omega)
    have h5 : (l.length : Int) ≤ (2 ^ 63 - 1) / (n : Int) := by
      rw [Int.le_ediv_iff_mul_le (by omega)]
      omega
    omega
  · intro h1 h2
    rw [S_len]
    unfold Builtin.Str.tooLong
    have e : (sizeLine : Nat) = 16777216 := by decide
    rw [e]
    exact decide_eq_false (by rw [Int.toNat_natCast]; omega)
  · have r0 : repL 0 l = [] := rfl
    have r1 : repL 1 l = l := List.append_nil l
    by_cases c0 : n = 0
    · subst c0
      rw [if_pos (by decide)]
      exact ⟨by decide, ⟨.str (S (repL 0 l)), H, I.tok _, ⟨_, rfl⟩, q⟩⟩
    · rw [if_neg (by omega)]
      by_cases c1 : ((n : Int) == 1 || (S l).length == 0) = true
      · rw [if_pos c1]
        have er : repL n l = l := by
          rw [Bool.or_eq_true] at c1
          rcases c1 with c1 | c1
          · have : n = 1 := by
              have := of_decide_eq_true c1
              omega
            rw [this, r1]
          · rw [S_len] at c1
            have : l = [] := List.eq_nil_of_length_eq_zero (eq_of_beq c1)
            subst this
            exact rep_nil n
        rw [er] at q
        exact ⟨.str (S l), H, I, ⟨_, rfl⟩, q⟩
      · rw [if_neg c1]
        have e := fold_rep l [] n
        have e' : ((List.replicate n l.toArray).foldl (· ++ ·) #[]) = (repL n l).toArray := e
        have e2 : (n : Int).toNat = n := Int.toNat_natCast n
        have e3 : (⟨(List.replicate (n : Int).toNat (S l).cps).foldl (· ++ ·) #[]⟩ : Str) = S (repL n l) := by
          rw [e2]
          exact congrArg Str.mk e'
        rw [e3]
        have e24 : (sizeLine : Nat) = 16777216 := by decide
        refine ⟨?_, ⟨.str (S (repL n l)), H, I.tok _, ⟨_, rfl⟩, q⟩⟩
        have el := rep_len l n
        rw [S_len, el, e24, Nat.mul_comm]
        omega

/-! ### D.get(key, x) of a dict of the module, keys texts -/
def KD (K : PySem.W.Frag) (w : World) (d : Addr) (f : Str → Option V) : Prop := ∃ es n, K.lookup d = some ⟨.type "dict", none, .dict es n, #[]⟩ ∧ PySem.W.KeysLit w.params es.toList ∧ (d == sysModules) = false ∧ ∀ z, RelO (f z) (findBy Value.isStrOf es z)
def tKGet (K : PySem.W.Frag) (w : World) (td ty tx : TE) : TE := fun σ H Q => td σ H fun x H1 => ∃ d f, x = .ref d ∧ KD K w d f ∧ ty σ H1 fun y H2 => tx σ H2 fun z H3 => ∃ k, y = .str k ∧ Q ((f k).getD z) H3
theorem pe_kget {X : Cx} {o e f : Expr} {apos cpos : Pos} {td ty tx : TE} {K : PySem.W.Frag} {w : World} (hK : X.K = K) (hw : X.w = w) (ho : PE X o td) (he : PE X e ty) (hf : PE X f tx) (m : M2 X o "get" apos e f cpos) : PE X (.Call (.Attribute o "get" apos) [e, f] [] cpos) (tKGet K w td ty tx) := by
  subst hK hw
  refine ⟨fun pins s σ H Q I h => ?_⟩
  refine wpAny_Call_method m.base m.few m.line PySem.F.plainAttrs_dict PySem.F.slot_dict_get PySem.F.type_dict_get (thn (ho.run pins s σ H _ I h) fun u s1 ⟨x, H1, I1, rx, d, g, ex, ⟨es, n, hl, hk, low, hg⟩, q1⟩ => ?_)
  subst ex
  obtain rfl : u = Value.ref d := rx
  have hm := PySem.W.mapOf_K (prog := X.prog) (w := X.w) I1.kIn hl hk
  refine ⟨hm.typeIs, fun b q => ?_, ?_⟩
  · cases q
    exact ⟨_, I1.kIn _ _ hl, rfl⟩
  rw [m.trees]
  refine Calls.callWith_builtin rfl (Calls.evalArgs_plain (Calls.spliced_cons (thn (he.run pins s1 σ H1 _ I1 q1) fun iv s2 ⟨y, H2, I2, ry, q2⟩ =>
    Calls.spliced_cons (thn (hf.run pins s2 σ H2 _ I2 q2) fun fv s3 ⟨z, H3, I3, rz, k, ey, q3⟩ => Calls.spliced_nil ?_))))
  subst ey
  obtain ⟨t, rfl⟩ := ry
  have hm3 := PySem.W.mapOf_K (prog := X.prog) (w := X.w) I3.kIn hl hk
  refine call_meetsIn PySem.F.slot_dict_get hm3.typeIs PySem.F.entry_dict_get (PySem.F.args_dict_get_3 _ _ _) (meets_dict_get_default (strKind X.prog X.w) d (strKind_is X.prog X.w k t) low fv) ⟨_, hm3, ⟨_, H3, I3.tok _, ?_, q3⟩⟩
  exact (hg k).getD rz
end Vf

set_option maxRecDepth 100000
set_option maxHeartbeats 4000000
namespace Vf
open PySem PySem.Spec PyProof.Rows L2 SX
/-! ### a def called at one known place of the stack (its guards are known there) -/
def noE : XK := fun _ _ _ => False
def RunAt (P : Program) (w : World) (K : PySem.W.Frag) (mg : Str → Option Value) (base : Heap) (A : Around) (f : Addr) (fd : FuncData) (ps : List Str) (sp : Sp) : Prop :=
  ∀ (out : List Env) (s : Shared) (H : Hp) (g : Args) (us : List Value) (vs : List V) (Q : VK), Env0 P w K mg base A out s H →
    BindsTo s fd g (ps.zip us) → Vals vs us → sp vs H Q noE → codeAny (model P w) A (.call (.ref f) g) (CR C8.CX0 out P w H s Q noE) s
section
variable {P : Program} {w : World} {K : PySem.W.Frag} {mg : Str → Option Value} {base : Heap}
theorem keeps_of {A : Around} {out : List Env} {s : Shared} {H : Hp} (e : Env0 P w K mg base A out s H) {b : Addr} {o : Obj} (h : base.get? b = some o) : s.heap.get? b = some o := (e.bs b o h).1
theorem runAt_of {q : Str} {st : Stmt} {f : Addr} {fd : FuncData} {N ps : List Str} {k : Nat} {A : Around} {sp : Sp} (F : C8.Fun K x q st f fd)
    (S : FnScope N ps (C8.fnScope st)) (len : ∀ vs H Q E, sp vs H Q E → vs.length = ps.length) (hr : Room (k + 1) A)
    (hb : ∀ (c : Value) (out : List Env) (s : Shared) (H : Hp) (vs : List V) (Q : VK), sp vs H Q noE →
      ∃ t, PSs (cxOf C8.CX0 P w K mg base N q (C8.fnScope st) f c A out s H noE).nox (C8.fnBody st) t ∧ t { nx := fun _ h => Q .non h, rt := Q } (start N vs) H) :
    RunAt P w K mg base A f fd ps sp := by
  obtain ⟨oc, od, dV, kV, dc, pm, an, c, ct, sl, rfl, lk, hc⟩ := F.ex
  intro out s H g us vs Q e0 hbind r hsp
  have hn := len _ _ _ _ hsp
  have KX : K.In s.heap := e0.mod.kin.keeps fun _ _ z => keeps_of e0 z
  have lim := e0.mod.nolimit.keeps (h' := s.heap) fun _ _ z => keeps_of e0 z
  refine codeAny_call_function hr.depth (KX _ _ lk) rfl S.co S.gen rfl (PySem.W.codeRec_of KX hc) (hbind _ _ _ _ ?_)
  refine wpAny_newFunctionEnv_cells S.kind (fun y hy => ?_) fun env he s1 x1 => ?_
  · rcases S.par y.1 (List.of_mem_zip hy).1 with z | z
    · exact Or.inl z
    · exact Or.inr ⟨z, PySem.W.cellsFrom_some _ _ _ (Or.inl z)⟩
  · subst he
    refine ⟨lim.keeps x1.toInCall.keep, codeAny_func ?_⟩
    obtain ⟨t, ht, hq⟩ := hb c out s H vs Q hsp
    refine wpAny_mono (ht.nox.run [] s1 (start N vs) H _ (inv_start S hr.hd e0 hn r x1) hq) (fun fl s' hs => ?_) (fun _ _ hs => hs)
    rcases fl with u | _ | _ | _
    all_goals first
      | exact (by obtain ⟨v, σ', H', J, rv, z⟩ := hs; exact ⟨v, H', J.os, J.bare, J.base, J.hok, rv, z⟩)
      | exact (by obtain ⟨σ', H', J, z⟩ := hs; exact ⟨V.non, H', J.os, J.bare, J.base, J.hok, rfl, z⟩)
      | exact (by obtain ⟨_, _, _, z⟩ := hs; exact z.elim)
end
/-- a tracked script list, or one of the written part -/
def scrH (a : Addr) (o : Obj) (xs : List V) : Hp := fun b => if b = a then some (.frz o (.lst xs)) else none
section
variable {P : Program} {w : World} {K : PySem.W.Frag} {mg mb : Str → Option Value} {fa a : Addr} {fd : FuncData} {x : Str} {sp : Sp} {s : Shared} {ws : List Value} {ns : List Int}
def LawEnd (s : Shared) (r : Result) (z : Shared) : Prop := r = .ok (.ret (.bool true)) ∧ OldK s.heap z.heap ∧ z.os = s.os ∧ AllBare z.gens
theorem law_core (KX : K.In s.heap) (hn : s.heap.Ns mainGlobals mg) (hb : s.heap.Ns builtinsNs mb) (hbb : ∀ y : Str, y ≠ "__name__" → mb y = bootBuiltins y) (hl : s.heap.NoLimit) (hg : s.gens = #[])
    (ha : s.heap.get? a = some { cls := .type "list", data := .seq ws.toArray }) (F : ∀ b : Heap, K.In b → b.Ns mainGlobals mg → RunAt P w K mg b callerA fa fd [x] sp)
    (bind : ∀ (z : Shared) (u : Value), BindsTo z fd ⟨[u], []⟩ [(x, u)]) (H : Hp) (hO : Only H) (hS : sp [.ref a] H (fun v _ => v = .bl true) noE) (ok : HOk P w H s.heap)
    (hA : ∀ b, H b ≠ none → b = a) (hK : H a ≠ none → K.lookup a = none) : codeAny (model P w) callerA (.call (.ref fa) ⟨[.ref a], []⟩) (LawEnd s) s := by
  have at_a : ∀ {b : Addr} {u : HO}, H b = some u → b = a := fun {b u} z => hA b fun n => nomatch n.symm.trans z
  have dictN : ∀ {b : Addr} {o : Obj} {es : Array DictEntry} {ep : Nat}, s.heap.get? b = some o → o.data = .dict es ep → H b = none := fun {b o es ep} e d =>
    match q : H b with
    | none => rfl
    | some u => by
      cases at_a q
      cases ha.symm.trans e
      exact nomatch d
  have nsN : ∀ {b : Addr} {m : Str → Option Value}, s.heap.Ns b m → (hidT s.heap H).Ns b m := fun {b m} n => by
    obtain ⟨o, es, ep, e, d, r⟩ := n
    exact ⟨o, es, ep, hidT_get e (dictN e d), d, r⟩
  have kin : K.In (hidT s.heap H) := fun b o e => hidT_get (KX b o e) (match q : H b with
    | none => rfl
    | some u => by
      cases at_a q
      cases (hK fun n => nomatch n.symm.trans q).symm.trans e)
  have lim : (hidT s.heap H).NoLimit := by
    obtain ⟨mc, l1, l2⟩ := hl
    exact ⟨mc, nsN l1, l2⟩
  have e0 : Env0 P w K mg (hidT s.heap H) callerA [] s H := ⟨rfl, ⟨kin, nsN hn, ⟨mb, nsN hb, hbb⟩, lim⟩, fun _ _ e => of_hidT e, Nat.le_of_eq (hidT_size _ _), trivial, fun b z => absurd (show b ∈ ([] : List Addr) from z) List.not_mem_nil, ok, .of_eq hg⟩
  refine codeAny_mono (F _ kin (nsN hn) [] s H ⟨[.ref a], []⟩ [.ref a] [.ref a] _ e0 (bind s (.ref a)) (.cons rfl .nil) hS) fun r z h => ?_
  match r, h with
  | .error e, h => exact (show False from h).elim
  | .ok .next, h => exact (show False from h).elim
  | .ok .brk, h => exact (show False from h).elim
  | .ok .cont, h => exact (show False from h).elim
  | .ok (.ret u), h =>
    obtain ⟨v, H', os, bare, un, ok', rv, rfl⟩ := h
    cases (show u = Value.bool true from rv)
    refine ⟨rfl, OldK.of_keep fun b o e => ?_, os, bare⟩
    match q : H b with
    | none => exact un.keep b o e q (fun m => absurd (show b ∈ ([] : List Addr) from m) List.not_mem_nil) List.not_mem_nil
    | some u =>
      rcases hO b with n | ⟨ob, xs, n⟩
      · exact nomatch n.symm.trans q
      · have g1 := (ok b _ n).1
        have g2 := (ok' b _ (un.frzs b ob _ n)).1
        cases e.symm.trans g1
        exact g2
theorem law_callG (KX : K.In s.heap) (hn : s.heap.Ns mainGlobals mg) (hb : s.heap.Ns builtinsNs mb) (hbb : ∀ y : Str, y ≠ "__name__" → mb y = bootBuiltins y) (hl : s.heap.NoLimit) (hg : s.gens = #[])
    (ha : s.heap.get? a = some { cls := .type "list", data := .seq ws.toArray }) (hi : IntsAre ws ns) (hz : ns.length ≤ sizeLine) (F : ∀ b : Heap, K.In b → b.Ns mainGlobals mg → RunAt P w K mg b callerA fa fd [x] sp)
    (bind : ∀ (z : Shared) (u : Value), BindsTo z fd ⟨[u], []⟩ [(x, u)]) (hS : ∀ H : Hp, Only H → SqL K H a (ns.map V.int) → sp [.ref a] H (fun v _ => v = .bl true) noE) :
    codeAny (model P w) callerA (.call (.ref fa) ⟨[.ref a], []⟩) (LawEnd s) s := by
  have rv := vals_ints hi
  match hk : K.lookup a with
  | some o =>
    cases ha.symm.trans (KX a o hk)
    have so : Only (fun _ => none) := fun _ => .inl rfl
    exact law_core KX hn hb hbb hl hg ha F bind _ so (hS _ so (.inr ⟨_, ws.toArray, _, hk, rfl, rfl, rfl, by rw [List.size_toArray, hi.length]; exact hz, by simpa using rv⟩)) (fun _ u z => nomatch (show (none : Option HO) = some u from z)) (fun _ z => absurd rfl z) (fun z => absurd rfl z)
  | none =>
    have e1 : scrH a { cls := .type "list", data := .seq ws.toArray } (ns.map V.int) a = some (.frz { cls := .type "list", data := .seq ws.toArray } (.lst (ns.map V.int))) := if_pos rfl
    have e2 : ∀ {b : Addr}, b ≠ a → scrH a { cls := .type "list", data := .seq ws.toArray } (ns.map V.int) b = none := fun n => if_neg n
    have so : Only (scrH a { cls := .type "list", data := .seq ws.toArray } (ns.map V.int)) := fun b => by
      by_cases z : b = a
      · subst z; exact .inr ⟨_, _, e1⟩
      · exact .inl (e2 z)
    refine law_core KX hn hb hbb hl hg ha F bind _ so (hS _ so (.inl (.inr ⟨_, e1⟩))) (fun b u z => ?_) (fun b z => ?_) fun _ => hk
    · by_cases y : b = a
      · subst y
        cases e1.symm.trans z
        exact ⟨ha, by rw [List.length_map]; exact hz, ws, _, rv, ha⟩
      · exact nomatch (e2 y).symm.trans z
    · by_cases y : b = a
      · exact y
      · exact absurd (e2 y) z
end
section
variable {l : PySem.W.OpenLaw} {n : Nat} {q : Program} {loose : List Str} {XP : (Str → Option Value) → Heap → Prop} {YP : World → Heap → Prop} {d : DefRec} {K : Params → PySem.W.Frag} {sp : PySem.W.Frag → Sp} {x : Str}
theorem walk_ofG (hn : l.most = some n) (hz : n ≤ sizeLine) (hd : d.params.defaults = []) (hY : ∀ (w : World) (h : Heap), YP w h → (K w.params).In h)
    (F : ∀ (w : World) (mg : Str → Option Value) (fa : Addr) (h : Heap), (K w.params).In h → h.Ns mainGlobals mg → mg d.name = some (.ref fa) →
      ∃ fd : FuncData, (∀ (z : Shared) (u : Value), BindsTo z fd ⟨[u], []⟩ [(x, u)]) ∧ ∀ b : Heap, (K w.params).In b → b.Ns mainGlobals mg → RunAt l.prog w (K w.params) mg b callerA fa fd [x] (sp (K w.params)))
    (hS : ∀ (K : PySem.W.Frag) (H : Hp) (a : Addr) (ns : List Int), ns.length ≤ n → Only H → SqL K H a (ns.map V.int) → sp K [.ref a] H (fun v _ => v = .bl true) noE) :
    PySem.W.WalkO q loose XP YP l.row.toRowW d [] (fun f vs => PySem.call f vs) := by
  refine Att.attach_call hn hd fun w s0 s1 mg mb fa o pm c dc a vs ns G Y ho ht hc hm hobj hi hlen hg => ?_
  have KX := hY w _ Y
  obtain ⟨fd, hb, hF⟩ := F w mg fa _ KX G.T.g hm
  exact law_callG KX G.T.g G.T.b G.T.builtins G.T.nolimit hg hobj hi (Nat.le_trans hlen hz) hF hb fun H hO hL => hS _ H a ns hlen hO hL
end
/-! ### repr of data -/
def rRepr (K : PySem.W.Frag) : List V → Hp → VK → Prop := fun xs H Q => ∃ (a : Addr) (d : PyData), xs = [.ref a] ∧ Dp K H (.ref a) d ∧ d.showable = true ∧ d.hasDict = false ∧ d.depth ≤ 40 ∧ d.shown.length ≤ sizeLine ∧ Q (.str d.shown) H
theorem call_reprD {X : Cx} (hg : X.A.guards = some []) (hu : X.A.units + 64 < cLine) : CallR X (.builtin "repr") (rRepr X.K) := by
  intro pins s σ H xs us Q I r h
  obtain ⟨a, d, rfl, hd, hs, hn, hp, hl, q⟩ := h
  cases r with
  | @cons _ u _ _ ra rt =>
    cases rt
    obtain rfl : u = Value.ref a := ra
    obtain ⟨as, rd⟩ := Dp.reads I d _ _ hd rfl
    exact repr_of_reads' rd hs (fun z => absurd (hn.symm.trans z) (by decide)) hg (by omega) (fun _ _ e => e) (fun h' u tk k => ⟨.str d.shown, H, I.kept k, ⟨_, rfl⟩, q⟩) hl
end Vf

set_option maxRecDepth 100000
set_option maxHeartbeats 4000000
namespace Vf
open PySem PySem.Spec PyProof.Rows L2 SX
/-! ### an own exception as a value: made, its fields read, its class asked -/
/-- __class__ of an own exception, with or without a dict of its own -/
theorem cls_of_exc {prog : Program} {w : World} {A : Around} {E : Value → Shared → Prop} {s : Shared} {K : PySem.W.Frag} {e C : Addr} {oe : Obj} {od : Option Obj} {Q : Option Value → Shared → Prop} (T : ExcC K C)
    (X : K.In s.heap) (I : PySem.W.InstAt s.heap e oe C od) (q : Q (some (.ref C)) { s with toks := s.toks + 1 }) : wpAny (model prog w) A (getAttr? (.ref e) "__class__") Q E s := by
  have fnd : PySem.W.findObj K C od "__class__" = some (.bind (.builtin "getset_descriptor.__get__") (.builtin "object.__class__")) := by
    obtain ⟨cd, hc, _⟩ := PySem.W.any_some T.hd
    unfold PySem.W.findObj
    simp [hc, T.ha, T.hn, T.ht]
  have own : (Value.builtin "BaseException.__getattribute__" == Value.builtin "object.__getattribute__") = false := by decide +kernel
  obtain ⟨h0, g0, d0, t0, o0⟩ := s
  have j0 := I.type (M := model prog w)
  have j1 := PySem.W.looks_findIn (M := model prog w) X T.hg
  have j2 := PySem.W.looks_findIn (M := model prog w) X T.hk
  have j3 := PySem.W.looks_find (M := model prog w) X I fnd
  have sb : PySem.W.Looks (model prog w) h0 (isInstance (.ref e) (.type "BaseException")) true := j0.andThen (PySem.W.looks_subIn X T.hs)
  unfold getAttr? getAttrBy? getAttrBy
  iterate 1 refine wpAny_bind (wpAny_mkText ?_)
  refine wpAny_bind (wpAny_attempt (wpAny_holding ?_))
  refine wpAny_bind (j0.at (wpAny_bind (j1.at ?_)))
  refine (show wpAny _ _ (if (onTheHeap (Value.ref C) && (Value.builtin "BaseException.__getattribute__" == Value.builtin "object.__getattribute__")) = true then _ else _) _ _ _ from ?_)
  rw [own, Bool.and_false, if_neg Bool.false_ne_true]
  unfold getAttrByItsOwn hookBefore
  refine wpAny_bind ?_
  have hon : onTheHeap (Value.ref C) = true := rfl
  rw [if_pos hon]
  refine j2.at (wpAny_bind (wpAny_attempt (wpAny_holding ?_)))
  unfold callGetattribute
  have hno : ¬ (false && onTheHeap (Value.builtin "BaseException.__getattribute__")) = true := Bool.false_ne_true
  rw [if_neg hno]
  unfold boundAndCalled
  rw [F.excAttr_ValueError.ga.bind (.ref e)]
  refine wpAny_bind (wpAny_pure ?_)
  refine (show wpAny _ _ (call (.builtin "BaseException.__getattribute__") [.ref e, .str "__class__" t0]) _ _ _ from ?_)
  refine (wpAny_call (codeAny_call_builtin F.excAttr_ValueError.ga.plain F.entry_bexc_ga ?_))
  refine @PySem.W.check_slot (model prog w) _ _ ⟨h0, g0, d0, t0 + 1, o0⟩ "BaseException.__getattribute__" "BaseException" "__getattribute__"
    (.ref e) [.str "__class__" t0] [] _ (by decide +kernel) (by decide +kernel) sb (F.args_bexc_ga (.ref e) (.str "__class__" t0)) ?_
  unfold Builtin.«object.__getattribute__»
  refine wpAny_bind (wpAny_of_eq (a := ((Value.ref e : Value), [Value.str "__class__" t0])) (by first | rfl | (simp only [slotArgs]; rfl)) ?_)
  refine wpAny_bind (wpAny_pure (wpAny_bind (j0.at (wpAny_bind (j3.at ?_)))))
  refine (show wpAny _ _ (holding [Value.builtin "object.__class__"] (call (.builtin "getset_descriptor.__get__") [.builtin "object.__class__", .ref e, .ref C]) >>= ret) _ _ _ from ?_)
  refine wpAny_bind (wpAny_holding (wpAny_call (PySem.W.class_get (s := ⟨h0, g0, d0, t0 + 1, o0⟩) X I T.hm ?_)))
  refine wpAny_pure ?_
  refine (show wpAny _ _ (handedOut (.ref C)) _ _ _ from ?_)
  rw [PySem.W.handedOut_of (v := .ref C) rfl]
  first
    | exact wpAny_pure (wpAny_pure q)
    | exact wpAny_pure q
theorem kitx_exo {K : PySem.W.Frag} {e C : Addr} {oe : Obj} {od : Option Obj} (T : ExcC K C) : PySem.W.KitX K (.ref e) (.ref C) (fun h => PySem.W.InstAt h e oe C od) := by
  have Z : PySem.W.KitX K (.ref e) (.ref C) (fun h => PySem.W.InstAt h e oe C none) := PySem.W.handS_kitx_exc T.hg T.hk T.hs T.hd T.ha T.hn T.ht T.hm
  obtain ⟨cd, hc, _⟩ := PySem.W.any_some T.hd
  exact { ty := fun _ _ _ I => I.type
          it := fun M h X I A Q E s k q => by
            unfold PySem.W.clsIn at hc
            split at hc
            · rename_i c1 d1 cd1 sl1 ho
              unfold isType loadHead
              exact wpAny_bind (wpAny_loadPart (k _ _ (X _ _ ho)) (wpAny_pure q))
            · cases hc
          ne := fun h tp dd its n sl X htp => Bool.eq_false_iff.mpr fun z => by
            have ez : C = tp := Value.ref.inj (beq_iff_eq.mp z)
            subst ez
            unfold PySem.W.clsIn at hc
            split at hc
            · rename_i c1 d1 cd1 sl1 ho
              exact nomatch (X _ _ ho).symm.trans htp
            · cases hc
          ca := fun X I k => cls_of_exc T X I k }
/-- an own exception of the class at C, with these fields, at a (n: none as yet) -/
def ExAt (H : Hp) (a C : Addr) (fs : List (Str × V)) : Prop := (fs = [] ∧ H a = some (exo a C none)) ∨ ∃ d, H a = some (exo a C (some d)) ∧ H d = some (exd d fs)
theorem inst_of {P : Program} {w : World} {H : Hp} {h : Heap} {a C : Addr} {fs : List (Str × V)} (ok : HOk P w H h) (e : ExAt H a C fs) : ∃ (oe : Obj) (od : Option Obj), PySem.W.InstAt h a oe C od := by
  rcases e with ⟨_, e⟩ | ⟨d, e1, e2⟩
  · obtain ⟨t, g⟩ := exo_at ok e
    exact ⟨_, none, ⟨g, rfl, rfl, trivial⟩⟩
  · obtain ⟨t, g⟩ := exo_at ok e1
    obtain ⟨mA, ⟨o, es, ep, g2, _⟩, _⟩ := exd_at ok e2
    exact ⟨_, some o, ⟨g, rfl, rfl, g2⟩⟩
def rIsX (K : PySem.W.Frag) : List V → Hp → VK → Prop := fun xs H Q => ∃ (a C : Addr) (fs : List (Str × V)) (c : V) (u : Value) (b : Bool), xs = [.ref a, c] ∧ ExAt H a C fs ∧ ExcC K C ∧ ClsV c u ∧ PySem.W.kitOne K (.ref C) u = some b ∧ Q (.bl b) H
theorem call_isX {X : Cx} : CallR X (.builtin "isinstance") (rIsX X.K) := by
  intro pins s σ H xs us Q I r h
  obtain ⟨a, C, fs, c, u, b, rfl, ex, T, k, e, q⟩ := h
  obtain ⟨u1, u2, rfl, r1, r2⟩ := vals2 r
  cases k.eq r2
  obtain rfl : u1 = Value.ref a := r1
  obtain ⟨oe, od, J⟩ := inst_of I.hok ex
  exact PySem.W.kia_one (kitx_exo T) I.kIn J e (fun z => nomatch z) fun tk => ⟨.bl b, H, I.tok tk, rfl, q⟩
/-- e.f of such an exception -/
def tXa (K : PySem.W.Frag) (f : Str) (te : TE) : TE := fun σ H Q => te σ H fun x H1 => ∃ (a C : Addr) (fs : List (Str × V)) (v : V), x = .ref a ∧ XfC K C ∧ PySem.W.findIn K (.ref C) f = some none ∧ ExAt H1 a C fs ∧ fs.lookup f = some v ∧ Q v H1
theorem pe_xa {X : Cx} {e : Expr} {te : TE} {pos : Pos} {f : Str} (he : PE X e te) (hb : attributeBase e f X.env (eval e X.env) = eval e X.env := by rfl) : PE X (.Attribute e f pos) (tXa X.K f te) := by
  refine ⟨fun pins s σ H Q I h => attr_of hb (thn (he.run pins s σ H _ I h) fun u s1 ⟨x, H1, I1, rx, a, C, fs, v, ex, T, hno, ea, l, q⟩ => ?_)⟩
  subst ex
  obtain rfl : u = Value.ref a := rx
  rcases ea with ⟨z, _⟩ | ⟨d, e1, e2⟩
  · subst z; cases l
  obtain ⟨t, g⟩ := exo_at I1.hok e1
  obtain ⟨mA, hns, hr⟩ := exd_at I1.hok e2
  obtain ⟨od, ho, hl⟩ := lookIn_ns hns
  obtain ⟨y, hy, ry⟩ := RelO.some_of (v := v) (o := mA f) (by rw [← l]; exact hr f)
  exact HandSPX.exc_get I1.kIn ⟨g, rfl, rfl, ho⟩ T.ga T.gg T.exC (PySem.W.findObj_own T.hdC hno rfl (by rw [hl, hy])) (handed_of ry) ⟨v, H1, I1.tok _, ry, q⟩
/-- C(e, ..), C's own __init__ keeping sp: the new exception stays -/
def tMkx (R : List V → Hp → VK → Prop) (ta : TA) : TE := fun σ H Q => ta σ H fun vs H1 => R vs H1 Q
theorem pe_mkx {X : Cx} {R : List V → Hp → VK → Prop} {x : Str} {C fI : Addr} {k : Nat} {fd : FuncData} {ps : List Str} {sp : Sp} {e : Expr} {es : List Expr} {ta : TA} {p pos : Pos} (T : OexC X.K C) (iC : PySem.W.findIn X.K (.ref C) "__init__" = some (some (.ref fI)))
    (tI : PySem.W.typeIn X.K (.ref fI) = some (.type "function")) (F1 : FnOk X.prog X.w X.K X.mg X.base C8.CX0 k fI fd ps sp) (hr : Room (k + 1) X.A) (hb : Binds X.K fd ps []) (hg : Gl X x) (hm : X.mg x = some (.ref C)) (ha : PA X (e :: es) ta)
    (hR : ∀ vs H1 Q, R vs H1 Q → vs.length ≤ 1000 ∧ ∀ a, H1 a = none → sp (.ref a :: vs) (upd H1 a (exo a C none)) (fun v H2 => v = .non ∧ Q (.ref a) H2) noE)
    (hdb : (x == ("__debug__" : Str)) = false := by decide) (he : starEach (e :: es) X.env = (false, eval e X.env) :: starEach es X.env := by rfl) (hpl : (backTo pos (starEach es X.env)).any (·.1) = false := by rfl) :
    PE X (.Call (.Name x p) (e :: es) [] pos) (tMkx R ta) := by
  refine ⟨fun pins s σ H Q I h => ?_⟩
  obtain ⟨nm, q, N, bs, bm, sn, sub, ab, col, dd, k0, k1, k2, k3, k5, hC, hbm⟩ := T.cls
  refine wpAny_Call_Name_kw (ld_glob I hg hm ?_ hdb)
  refine PySem.W.callWith_K (h₀ := X.base) I.ok.mod.kin T.kC (thn (ha.run pos pins s σ H _ I h) fun us s1 ⟨vs, H1, I1, r1, q0⟩ => ⟨I1.kIn, ?_⟩) he hpl
  obtain ⟨hz, q1⟩ := hR _ _ _ q0
  refine (show wpAny _ _ (call (.ref C) us) _ _ _ from ?_)
  obtain ⟨hp, g, dr, tk, os⟩ := s1
  have top : hp.objs.size ≤ hp.objs.size + 1 := Nat.le_succ _
  have hn : H1 (hp.objs.size + 1) = none := I1.hok.fresh top
  have grow : ∀ b o, hp.get? b = some o → ((hp.push (PySem.W.kdv_tup us)).push (PySem.HandSPX.excO C hp.objs.size)).get? b = some o := fun b o z => Heap.get?_push_of_some _ (Heap.get?_push_of_some _ z)
  have I2 := I1.laid (t' := tk) (a := hp.objs.size + 1) (o := exo (hp.objs.size + 1) C none) (h' := (hp.push (PySem.W.kdv_tup us)).push (PySem.HandSPX.excO C hp.objs.size)) grow top (exo_ok (t1 := hp.objs.size) (by heap_get))
  have r2 : Vals (V.ref (hp.objs.size + 1) :: vs) (Value.ref (hp.objs.size + 1) :: us) := .cons rfl r1
  have hq := q1 (hp.objs.size + 1) hn
  have hl : (Value.ref (hp.objs.size + 1) :: us).length = ps.length := r2.length.symm.trans (F1.len _ _ _ _ hq)
  have hus : us.length ≤ sizeLine := Nat.le_trans (Nat.le_of_eq (Paired.length r1).symm) (Nat.le_trans hz (by rw [sizeLine_eq]; decide))
  have bd := hb ⟨(hp.push (PySem.W.kdv_tup us)).push (PySem.HandSPX.excO C hp.objs.size), g, dr, tk, os⟩ (Value.ref (hp.objs.size + 1) :: us) I2.kIn (by rw [List.append_nil]; exact hl)
  rw [List.append_nil] at bd
  refine wpAny_call (PySem.HandSPX.call_own F.excBase_ValueError (fun Y => PySem.HandSPX.refsVE_contains Y bm hbm) (I1.kIn _ _ hC) (PySem.W.looks_findIn I1.kIn iC) (fun self => PySem.W.bind_fn I1.kIn self tI) hus ?_)
  refine codeAny_mono (F1.run _ X.stack _ _ ⟨Value.ref (hp.objs.size + 1) :: us, []⟩ (Value.ref (hp.objs.size + 1) :: us) _ _ noE (hr.make C us []) (I2.env0.make C us []) bd r2 hq) fun r s' z => ?_
  match r, z with
  | .error _, z => exact (show False from z).elim
  | .ok .next, z => exact (show False from z).elim
  | .ok .brk, z => exact (show False from z).elim
  | .ok .cont, z => exact (show False from z).elim
  | .ok (.ret u), z =>
    obtain ⟨v, H2, I3, rv, ev, q2⟩ := I2.after z
    subst ev
    exact ⟨rv, .ref (hp.objs.size + 1), H2, I3, rfl, q2⟩
/-- C(), a class without own __init__ -/
theorem pe_mkx0 {X : Cx} {C : Addr} {x : Str} {p pos : Pos} (T : OexC X.K C) (q : PySem.W.excIn X.K C [.type "ValueError", .type "Exception", .type "BaseException", .type "object"] "ValueError.__new__" = true) (gC : X.mg x = some (.ref C)) (hg : Gl X x)
    (hdb : (x == ("__debug__" : Str)) = false := by decide) : PE X (.Call (.Name x p) [] [] pos) (fun σ H Q => ∀ a, H a = none → Q (.ref a) (upd H a (exo a C none))) := by
  refine ⟨fun pins s σ H Q I h => ?_⟩
  refine wpAny_Call_Name_kw (ld_glob I hg gC ?_ hdb)
  refine PySem.W.callWith_K0 I.kIn T.kC ?_
  obtain ⟨bm, N, nm, qn, bs, hdct, sn, sub, ab, col, dd, k0, k1, k2, k3, k5, mN, hC, hN, hni, OT⟩ := exc_obj I.kIn q
  refine wpAny_call_exc_subT F.excBase_ValueError OT hC hN hni (fun h' a hm => ?_) (Nat.zero_le _)
  have hn : H a = none := I.hok.gone hm.new
  obtain ⟨t, ht, _, _⟩ := hm.there
  exact ⟨.ref a, upd H a (exo a C none), I.laidN hm.keeps hm.new hn (exo_ok ht), rfl, h a hn⟩
end Vf

set_option maxRecDepth 100000
set_option maxHeartbeats 4000000
namespace Vf
open PySem PySem.Spec PyProof.Rows L2 SX
/-! ### defs that may raise -/
structure CalX (P : Program) (w : World) (K : PySem.W.Frag) (mg : Str → Option Value) (base : Heap) (k : Nat) (x : Str) (sp : Sp) : Prop where
  ex : ∃ (f : Addr) (fd : FuncData) (ps : List Str), FnOk P w K mg base (L2.CX P w) k f fd ps sp ∧ mg x = some (.ref f) ∧ PySem.W.keepIn K (.ref f) = true ∧ Binds K fd ps []
structure MetX (P : Program) (w : World) (K : PySem.W.Frag) (mg : Str → Option Value) (base : Heap) (k : Nat) (C : Addr) (m : Str) (sp : Sp) : Prop where
  ex : ∃ (f : Addr) (fd : FuncData) (ps : List Str), Cls K C ∧ Meth K C m f ∧ FnOk P w K mg base (L2.CX P w) k f fd ps sp ∧ Binds K fd ps []
section
variable {P : Program} {w : World} {K : PySem.W.Frag} {mg : Str → Option Value} {base : Heap}
theorem fnX {x q : Str} {st : Stmt} {f : Addr} {fd : FuncData} {N ps : List Str} {k : Nat} {sp : Sp} (F : C8.Fun K x q st f fd) (S : FnScope N ps (C8.fnScope st)) (len : ∀ vs H Q E, sp vs H Q E → vs.length = ps.length)
    (hb : ∀ (c : Value) (A : Around) (outer : List Env) (s : Shared) (H : Hp) (vs : List V) (Q : VK) (E : XK), Room k (A.deeper (envOfC q (C8.fnScope st) s.heap.objs.size f c)) → sp vs H Q E →
      ∃ t, PSs (cxOf (L2.CX P w) P w K mg base N q (C8.fnScope st) f c A outer s H E) (C8.fnBody st) t ∧ t { nx := fun _ h => Q .non h, rt := Q } (start N vs) H) : FnOk P w K mg base (L2.CX P w) (k + 1) f fd ps sp := by
  obtain ⟨oc, od, dV, kV, dc, pm, an, c, ct, sl, rfl, lk, hc⟩ := F.ex
  exact fn_of lk hc S len fun A outer s H vs Q E hr h => hb c A outer s H vs Q E hr h
theorem calX {x : Str} {st : Stmt} {f : Addr} {fd : FuncData} {N ps : List Str} {k : Nat} {sp : Sp} (F : C8.Def K mg x st f fd) (b : Binds K fd ps []) (S : FnScope N ps (C8.fnScope st)) (len : ∀ vs H Q E, sp vs H Q E → vs.length = ps.length)
    (hb : ∀ (c : Value) (A : Around) (outer : List Env) (s : Shared) (H : Hp) (vs : List V) (Q : VK) (E : XK), Room k (A.deeper (envOfC x (C8.fnScope st) s.heap.objs.size f c)) → sp vs H Q E →
      ∃ t, PSs (cxOf (L2.CX P w) P w K mg base N x (C8.fnScope st) f c A outer s H E) (C8.fnBody st) t ∧ t { nx := fun _ h => Q .non h, rt := Q } (start N vs) H) : CalX P w K mg base (k + 1) x sp :=
  ⟨f, fd, ps, fnX F.fn S len hb, F.mgf, F.kp, b⟩
theorem metX {m q : Str} {C : Addr} {st : Stmt} {f : Addr} {fd : FuncData} {N ps : List Str} {k : Nat} {sp : Sp} (c : Cls K C) (me : Meth K C m f) (F : C8.Fun K m q st f fd) (b : Binds K fd ps []) (S : FnScope N ps (C8.fnScope st)) (len : ∀ vs H Q E, sp vs H Q E → vs.length = ps.length)
    (hb : ∀ (c : Value) (A : Around) (outer : List Env) (s : Shared) (H : Hp) (vs : List V) (Q : VK) (E : XK), Room k (A.deeper (envOfC q (C8.fnScope st) s.heap.objs.size f c)) → sp vs H Q E →
      ∃ t, PSs (cxOf (L2.CX P w) P w K mg base N q (C8.fnScope st) f c A outer s H E) (C8.fnBody st) t ∧ t { nx := fun _ h => Q .non h, rt := Q } (start N vs) H) : MetX P w K mg base (k + 1) C m sp :=
  ⟨f, fd, ps, c, me, fnX F S len hb, b⟩
end
section
variable {X : Cx} {k j : Nat} {x m : Str} {C : Addr} {sp : Sp} {p pos apos : Pos} {e o : Expr} {es : List Expr} {t : TA} {ta : TE} {W : WX}
/-- such a def called where what it raises is wished for -/
theorem pe_cx (c : CalX X.prog X.w X.K X.mg X.base k x sp) (hr : Room j X.A) (hk : k ≤ j) (hg : Gl X x) (tk : Takes X W) (ha : PA X (e :: es) t)
    (hdb : (x == ("__debug__" : Str)) = false := by decide) (he : starEach (e :: es) X.env = (false, eval e X.env) :: starEach es X.env := by rfl) (hpl : (backTo pos (starEach es X.env)).any (·.1) = false := by rfl) :
    PE X (.Call (.Name x p) (e :: es) [] pos) (tCallS sp (WE W) t) := by
  obtain ⟨f, fd, ps, F, hm, kp, b⟩ := c.ex
  exact pe_callS F (hr.mono hk) hg hm kp b (fun σ => passAt tk σ) ha hdb he hpl
/-- .. called where it raises nothing -/
theorem pe_cx0 (c : CalX X.prog X.w X.K X.mg X.base k x sp) (hr : Room j X.A) (hk : k ≤ j) (hg : Gl X x) (ha : PA X (e :: es) t)
    (hdb : (x == ("__debug__" : Str)) = false := by decide) (he : starEach (e :: es) X.env = (false, eval e X.env) :: starEach es X.env := by rfl) (hpl : (backTo pos (starEach es X.env)).any (·.1) = false := by rfl) :
    PE X (.Call (.Name x p) (e :: es) [] pos) (tCall sp [] E0 t) := by
  obtain ⟨f, fd, ps, F, hm, kp, b⟩ := c.ex
  exact pe_call F (hr.mono hk) hg hm kp b .nil passL ha hdb he hpl
def tMx (C : Addr) (m : Str) (sp : Sp) (E : L2.St → XK) (ta : TE) (t : TA) : TE := fun σ H Q => ta σ H fun v H1 => ∃ a dx fs, v = .ref a ∧ H1 a = some (.ins C dx fs) ∧ fs.lookup m = none ∧ t σ H1 fun vs H2 => sp (v :: vs) H2 Q (E σ)
/-- o.m(e, ..) that may raise -/
theorem pe_mx {pl : Sem Bool} (c : MetX X.prog X.w X.K X.mg X.base k C m sp) (hr : Room j X.A) (hk : k ≤ j) (tk : Takes X W) (he : PE X o ta) (ha : PA X (e :: es) t)
    (hst : starEach (e :: es) X.env = (false, eval e X.env) :: starEach es X.env := by rfl) (hpl : (backTo pos (starEach es X.env)).any (·.1) = false := by rfl)
    (ht : eval (.Call (.Attribute o m apos) (e :: es) [] pos) X.env = (do
      let ov ← eval o X.env
      standAt apos.atName
      let (f, first) ← holding [ov] (getMethod ov m pl)
      callWith pos f first (backTo pos (starEach (e :: es) X.env)) (backToKw pos (keywordEach [] X.env))) := by rfl) :
    PE X (.Call (.Attribute o m apos) (e :: es) [] pos) (tMx C m sp (WE W) ta t) := by
  obtain ⟨f, fd, ps, hc, hm, F, b⟩ := c.ex
  refine ⟨fun pins s σ H Q I h => ?_⟩
  refine PySem.W.methodCall_KW (pl := pl) (thn (he.run pins s σ H _ I h) fun u s1 ⟨v, H1, I1, rx, a, dx, fs, ex, ea, l, q⟩ => ?_) ht
  subst ex
  obtain rfl : u = Value.ref a := rx
  refine getmeth_ok I1 ea hc hm l ?_
  refine PySem.W.callWith_K (first := [.ref a]) (h₀ := X.base) I.ok.mod.kin hm.kp (thn (ha.run pos pins s1 σ H1 _ I1 q) fun us s2 ⟨vs, H2, I2, r, q2⟩ => ⟨I2.kIn, ?_⟩) hst hpl
  exact run_fnS (us := .ref a :: us) (vs := .ref a :: vs) F (hr.mono hk) b (passAt tk σ) I2 (.cons rfl r) q2
/-- o.m() that may raise -/
theorem pe_mx0 {pl : Sem Bool} (c : MetX X.prog X.w X.K X.mg X.base k C m sp) (hr : Room j X.A) (hk : k ≤ j) (tk : Takes X W) (he : PE X o ta)
    (ht : eval (.Call (.Attribute o m apos) [] [] pos) X.env = (do
      let ov ← eval o X.env
      standAt apos.atName
      let (f, first) ← holding [ov] (getMethod ov m pl)
      callWith pos f first (backTo pos (starEach [] X.env)) (backToKw pos (keywordEach [] X.env))) := by rfl) :
    PE X (.Call (.Attribute o m apos) [] [] pos) (tMx C m sp (WE W) ta tNil) := by
  obtain ⟨f, fd, ps, hc, hm, F, b⟩ := c.ex
  refine ⟨fun pins s σ H Q I h => ?_⟩
  refine PySem.W.methodCall_KW (pl := pl) (thn (he.run pins s σ H _ I h) fun u s1 ⟨v, H1, I1, rx, a, dx, fs, ex, ea, l, q⟩ => ?_) ht
  subst ex
  obtain rfl : u = Value.ref a := rx
  refine getmeth_ok I1 ea hc hm l ?_
  exact PySem.W.callWith_K0 (first := [.ref a]) I1.kIn hm.kp (run_fnS (us := [.ref a]) (vs := [.ref a]) F (hr.mono hk) b (passAt tk σ) I1 (.cons rfl .nil) q)
end
/-! ### own exceptions raised -/
/-- __init__ of such: its arguments under these names, in a new dict -/
def sp_inx (C : Addr) (fs : List Str) : Sp := fun xs H Q _ => ∃ (a : Addr) (ys : List V), xs = .ref a :: ys ∧ ys.length = fs.length ∧ H a = some (exo a C none) ∧
  ∀ (d : Addr) (H2 : Hp), H d = none → d ≠ a → H2 a = some (exo a C (some d)) → H2 d = some (exd d (fs.zip ys).reverse) → (∀ b o, b ≠ a → H b = some o → H2 b = some o) → (∀ b, H2 b = none → H b = none) → Q .non H2
def tImp (ta : TA) : TA := fun σ H Q => ∃ Q0 : List V → Hp → Prop, ta σ H Q0 ∧ ∀ vs H1, Q0 vs H1 → Q vs H1
theorem pa_imp {X : Cx} {es : List Expr} {ta : TA} (ha : PA X es ta) : PA X es (tImp ta) := ⟨fun pos pins s σ H Q I ⟨Q0, h, i⟩ => thn (ha.run pos pins s σ H Q0 I h) fun us s1 ⟨vs, H1, I1, r, q⟩ => ⟨vs, H1, I1, r, i vs H1 q⟩⟩
structure Rc (K : PySem.W.Frag) (mg : Str → Option Value) (n : Str) (C : Addr) : Prop where
  g : mg n = some (.ref C)
  o : OexC K C
  x : XfC K C
structure Rk (P : Program) (w : World) (K : PySem.W.Frag) (mg : Str → Option Value) (base : Heap) (n : Str) (C : Addr) (fs : List Str) : Prop where
  rc : Rc K mg n C
  no : ∀ f ∈ fs, PySem.W.findIn K (.ref C) f = some none
  ini : ∃ (fI : Addr) (fd : FuncData) (ps : List Str), PySem.W.findIn K (.ref C) "__init__" = some (some (.ref fI)) ∧ PySem.W.typeIn K (.ref fI) = some (.type "function") ∧ FnOk P w K mg base C8.CX0 1 fI fd ps (sp_inx C fs) ∧ Binds K fd ps []
def tRx (C : Addr) (fs : List Str) (W : WX) (ta : TA) : TS := fun _ σ H => ta σ H fun vs H1 => vs.length = fs.length ∧ ∀ (d : Addr) (H2 : Hp), H1 d = none → H2 d = some (.xd (fs.zip vs).reverse) → Same H1 H2 → W (.ref C) (some d) σ H2
theorem ps_rx {X : Cx} {n : Str} {C : Addr} {fs : List Str} {j : Nat} {e : Expr} {es : List Expr} {ta : TA} {W : WX} {p pos pos2 : Pos} (E : Rk X.prog X.w X.K X.mg X.base n C fs) (hr : Room j X.A) (hj : 2 ≤ j) (hg : Gl X n) (hc : X.calm = true) (tk : Takes X W) (ha : PA X (e :: es) ta) (hf : fs.length < 100 := by decide)
    (hdb : (n == ("__debug__" : Str)) = false := by decide) (he : starEach (e :: es) X.env = (false, eval e X.env) :: starEach es X.env := by rfl) (hpl : (backTo pos (starEach es X.env)).any (·.1) = false := by rfl) :
    PS X (.Raise (some (.Call (.Name n p) (e :: es) [] pos)) none pos2) (tRx C fs W ta) := by
  obtain ⟨fI, fd, ps, i1, i2, F, b⟩ := E.ini
  refine ⟨fun pins s σ H D I h => (ps_raise hc tk (pmk_oex E.rc.o i1 i2 F (hr.mono hj) b .nil pass0 hg E.rc.g (pa_imp ha) hdb he hpl)).run pins s σ H D I ?_⟩
  refine ⟨_, h, fun vs H1 q => ?_⟩
  obtain ⟨hl, q⟩ := q
  refine ⟨by omega, fun a hn => ⟨a, vs ++ [], rfl, by rw [List.append_nil]; exact hl, upd_same, fun d H2 hd nd e1 e2 keep fr => ?_⟩⟩
  rw [List.append_nil] at e2
  rw [upd_ne nd] at hd
  refine ⟨rfl, d, (fs.zip vs).reverse, e1, e2, hd, q d _ hd upd_same fun b o z => ?_⟩
  have nb : b ≠ a := ne_of_none z hn
  rw [upd_ne (ne_of_none z hd), del_ne nb]
  exact keep b o nb (by rw [upd_ne nb]; exact z)
/-! ### try with several clauses that name the error alike -/
def wManyA (K : PySem.W.Frag) (i : Nat) (Wout : WX) (D : Ends) : List (Value × (Addr → Value → Option Addr → TS)) → WX
  | [] => Wout
  | (c, ts) :: r => fun cls d σ H => ∃ b, PySem.W.exmOne K cls c = some b ∧
      (b = true → ∀ a, H a = none → ts a cls d { nx := fun σ' H' => D.nx (σ'.set i none) H', rt := D.rt, bk := fun σ' H' => D.bk (σ'.set i none) H', ct := fun σ' H' => D.ct (σ'.set i none) H' } (σ.set i (some (.ref a))) H) ∧ (b = false → wManyA K i Wout D r cls d σ H)
inductive HdsA (X : Cx) (n : Str) : List ExceptHandler → List (Value × (Addr → Value → Option Addr → TS)) → Prop
  | nil : HdsA X n [] []
  | cons {x : Str} {c : Value} {ts : Addr → Value → Option Addr → TS} {b₀ : Stmt} {suite : List Stmt} {np pos' : Pos} {hds : List ExceptHandler} {l : List (Value × (Addr → Value → Option Addr → TS))} (hc : Names X x c)
      (hsu : ∀ (a : Addr) (oe : Obj) (cls : Value) (d : Option Addr) (pn : List (Addr × Obj)), Zc cls d oe → (∃ vs, oe.data = .fields vs) → PSs (X.suite a ((a, oe) :: pn)) (b₀ :: suite) (ts a cls d)) (r : HdsA X n hds l) :
      HdsA X n (.ExceptHandler (some (.Name x np)) (some n) (b₀ :: suite) pos' :: hds) ((c, ts) :: l)
theorem ps_try_ma {X : Cx} {n : Str} {i : Nat} {body : List Stmt} {h₀ : ExceptHandler} {hds : List ExceptHandler} {l : List (Value × (Addr → Value → Option Addr → TS))} {pos : Pos} {tb : WX → TS} {Wout : WX}
    (hs : X.stack = X.env :: X.outer) (hf : X.env.frame = some X.env.locals) (hN : X.N.Nodup) (hi : X.N[i]? = some n) (hln : X.env.kindOf n = some .local) (tk : Takes X Wout)
    (hb : ∀ (W : WX) (pn : List (Addr × Obj)) (xe : Value → Shared → Prop), Takes (X.tr pn xe) W → PassesOwn (model X.prog X.w) X.A X.env xe → PSs (X.tr pn xe) body (tb W))
    (hh : HdsA X n (h₀ :: hds) l) : PS X (.Try body (h₀ :: hds) [] [] pos) (fun D σ H => tb (wManyA X.K i Wout D l) D σ H) := by
  refine ⟨fun pins s σ H D I h => ?_⟩
  have ok := I.ok
  have hfr : X.A.frames = some (X.env :: X.outer) := by rw [ok.frames, hs]
  have hloc : Loc X.env.scope n := .inl hln
  refine wpAny_Try_except ?_
  refine wpAny_mono ((hb (wManyA X.K i Wout D l) (X.pn ++ pins) (fun e s₁ => wpAny (model X.prog X.w) X.A (noteFrame e X.env) (fun _ s₂ => wpAny (model X.prog X.w) X.A (setFlight e none) (fun _ s₃ =>
    wpAny (model X.prog X.w) X.A (handleBy e X.env (h₀ :: hds)) (SP X pins D) X.xe s₃) X.xe s₂) X.xe s₁) (fun u s' xx => ?_) PassesOwn.looking).run [] s σ H D (I.toTry _) h) (fun f s1 hsp => ?_) (fun e s1 he => he)
  · obtain ⟨a, B, sI, pins', σ', H', cls, d, rfl, J', nb, up, sky, na, os, ag, w⟩ := xx
    have J : Inv X pins σ' H' sI := J'.ofTry ok
    have sky' : Sky B (X.env :: X.outer) a (Zc cls d) X.env.locals s'.heap := by rw [← hs]; exact sky
    show wpAny (model X.prog X.w) X.A (noteFrame (.ref a) X.env) _ _ _
    refine Sky.land Zc.steady hfr hf sky' fun h3 fl3 up3 => ?_
    have J3 : Inv X pins σ' H' { s' with heap := h3 } := J.landed nb fl3.1 (up.trans up3) os ag
    obtain ⟨oe3, vs3, he3, hz3, hd3⟩ := fl3.there
    have notFr : ∀ {h : Heap} {o : Obj} {vs : Array Value}, h.FunFrames B (X.env :: X.outer) → h.get? a = some o → o.data = .fields vs → a ∉ frs (X.env :: X.outer) := fun {h o vs} ff e dd hm => by
      obtain ⟨_, o', e', hnf⟩ := ff.mem hm
      rw [e] at e'; cases e'
      exact hnf _ dd
    have nfr := notFr fl3.2.2.1 he3 hd3
    have nL : a ≠ X.env.locals := fun z => nfr (List.mem_filterMap.mpr ⟨X.env, List.mem_cons_self, by rw [hf, z]⟩)
    have nF : a ∉ X.fs := fun hm => by
      obtain ⟨e, he, q⟩ := List.mem_filterMap.mp hm
      exact nfr (List.mem_filterMap.mpr ⟨e, List.mem_cons_of_mem _ he, q⟩)
    have S3 := J3.suite he3 hd3 na nL nF
    have go : ∀ {hds' : List ExceptHandler} {l' : List (Value × (Addr → Value → Option Addr → TS))}, HdsA X n hds' l' → wManyA X.K i Wout D l' cls d σ' H' →
        wpAny (model X.prog X.w) X.A (handleBy (.ref a) X.env hds') (SP X pins D) X.xe { s' with heap := h3 } := by
      intro hds' l' hk
      induction hk with
      | nil =>
        intro w
        refine wpAny_handleBy_nil ?_
        obtain ⟨k1, k2, k3, oe, vs, T, oT, ts', he, hz, hd, h1, hr⟩ := id fl3
        unfold PySem.passOn
        refine wpAny_bind (wpAny_field he hd h1 ?_)
        rw [if_neg (show ¬ ((Value.ref T == Value.none) = true) from by simp)]
        have fin : wpAny (model X.prog X.w) X.A (setFlight (.ref a) X.env.frame) (fun _ s4 => wpAny (model X.prog X.w) X.A (throw (.ref a) : Sem Flow) (SP X pins D) X.xe s4) X.xe { s' with heap := h3 } := by
          rw [hf]
          refine HandSPX.setFlight_upZ fl3 fun h4 hh4 up4 => wpAny_throw (tk _ _ ?_)
          exact ⟨a, B, sI, pins, σ', H', cls, d, rfl, J, nb, (up.trans up3).trans up4, .inr (.inr (by rw [hs]; exact hh4)), na, os, ag, w⟩
        first
          | exact wpAny_bind (wpAny_pure (wpAny_bind fin))
          | exact wpAny_bind fin
      | @cons x c ts b₀ suite np pos' hds2 l2 hc hsu r ih =>
        intro w
        obtain ⟨b, hb1, hyes, hno⟩ := w
        refine wpAny_handleBy_cons (codeAny_handlers_test ?_) (by intro q; cases q)
        have LT : PySem.W.Looks (model X.prog X.w) h3 (typeOf (.ref a)) cls := fun A Q E s k q => wpAny_typeOf_ref (k _ _ he3) (by rw [hz3.1]; exact q)
        have LM := PySem.W.exm_one (M := model X.prog X.w) (J3.kIn) LT hb1
        have test : ∀ {Q : Value → Shared → Prop} {E : Value → Shared → Prop}, Q c { s' with heap := h3 } → wpAny (model X.prog X.w) (X.A.mark (some (.ref a))) (eval (.Name x np) X.env) Q E { s' with heap := h3 } := fun {Q E} q => by
          obtain ⟨hg, hdbg, hm | ⟨hm, hv, hnn⟩⟩ := hc
          · exact ld_glob (X := X.suite a ((a, oe3) :: (X.pn ++ pins))) S3 hg hm q hdbg
          · exact ld_blt (X := X.suite a ((a, oe3) :: (X.pn ++ pins))) S3 hg hm hv q hnn hdbg
        refine test (LM.here ?_)
        cases b with
        | true =>
          refine codeAny_handlers_suite_as ?_
          refine HandSPX.lands_againZ fl3 fun h4 fl4 up4 => ?_
          have J4 : Inv X pins σ' H' { s' with heap := h4 } := J.landed nb fl4.1 ((up.trans up3).trans up4) os ag
          obtain ⟨oe4, vs4, he4, hz4, hd4⟩ := fl4.there
          have S4 := J4.suite he4 hd4 na nL nF
          refine store_ok (X := X.suite a ((a, oe4) :: (X.pn ++ pins))) (v := .ref a) S4 hN hi hloc rfl (fun s5 S5 => ?_) (.inr hln)
          refine wpAny_mono ((hsu a oe4 cls d (X.pn ++ pins) hz4 ⟨_, hd4⟩).run [] s5 _ H' _ S5 (hyes rfl a na)) (fun f s6 hsp => ?_) (fun _ _ z => False.elim z)
          have end_ : ∀ {σ6 : L2.St} {H6 : Hp} {Q : Shared → Prop}, Inv (X.suite a ((a, oe4) :: (X.pn ++ pins))) [] σ6 H6 s6 → (∀ s7, Inv X pins (σ6.set i none) H6 s7 → Q s7) →
              wpAny (model X.prog X.w) X.A (do bindName X.env n .none; unbindBehindTheSuite X.env n pos') (fun _ s7 => Q s7) X.xe s6 := fun {σ6 H6 Q} S6 hq => gone_ok (S6.unsuite ok) hN hi hln hq
          cases f with
          | next =>
            obtain ⟨σ6, H6, S6, q6⟩ := hsp
            exact end_ S6 fun s7 J7 => ⟨_, _, J7, q6⟩
          | brk =>
            obtain ⟨σ6, H6, S6, q6⟩ := hsp
            exact end_ S6 fun s7 J7 => ⟨_, _, J7, q6⟩
          | cont =>
            obtain ⟨σ6, H6, S6, q6⟩ := hsp
            exact end_ S6 fun s7 J7 => ⟨_, _, J7, q6⟩
          | ret u =>
            obtain ⟨v6, σ6, H6, S6, r6, q6⟩ := hsp
            exact end_ S6 fun s7 J7 => ⟨_, _, _, J7, r6, q6⟩
        | false =>
          show wpAny _ X.A (handleBy (.ref a) X.env hds2) _ _ _
          exact ih (hno rfl)
    exact go hh w
  · cases f with
    | next =>
      obtain ⟨σ', H', J', q⟩ := hsp
      exact wpAny_execs_nil ⟨σ', H', J'.ofTry ok, q⟩
    | brk =>
      obtain ⟨σ', H', J', q⟩ := hsp
      exact ⟨σ', H', J'.ofTry ok, q⟩
    | cont =>
      obtain ⟨σ', H', J', q⟩ := hsp
      exact ⟨σ', H', J'.ofTry ok, q⟩
    | ret u =>
      obtain ⟨v, σ', H', J', r, q⟩ := hsp
      exact ⟨v, σ', H', J'.ofTry ok, r, q⟩
end Vf

set_option maxRecDepth 100000
set_option maxHeartbeats 4000000
namespace Vf
open PySem PySem.Spec PyProof.Rows L2 SX
/-! ### == and != by an own __eq__, either answer -/
structure OwnC (K : PySem.W.Frag) (C f : Addr) : Prop where
  cls : ∃ (nm q : Str) (N : Addr) (bs : List Value) (hdct : Bool) (sn : List Str) (sub : List Value) (ab : Bool) (col : Option Bool) (dd : Option Addr) (k0 k1 k2 k3 k5 : Option Value) (newId : String),
    K.lookup C = some (excClassObj nm q C N bs [.type "object"] hdct sn sub ab col dd k0 k1 k2 k3 k5 newId) ∧ PySem.W.nsOkIn K N = true ∧ PySem.W.nsIn K N "__eq__" = some (some (.ref f)) ∧ PySem.W.nsIn K N "__ne__" = some none
  hs : PySem.W.findIn K (.ref C) "__eq__" = some (some (.ref f))
  hf : PySem.W.isFn K (.ref f) = true
def spEqI (R : Addr → Addr → Bool → Hp → Prop) : Sp := fun vs H Q _ => ∃ a b r, vs = [.ref a, .ref b] ∧ R a b r H ∧ ∀ H', Same H H' → Q (.bl r) H'
def rEqI (C : Addr) (n : Bool) (R : Addr → Addr → Bool → Hp → Prop) : R2 := fun x y H Q => ∃ a b r dx dy fs gs, x = .ref a ∧ y = .ref b ∧ H a = some (.ins C dx fs) ∧ H b = some (.ins C dy gs) ∧ R a b r H ∧ ∀ H', Same H H' → Q (.bl (r != n)) H'
theorem ns_some {K : PySem.W.Frag} {h : Heap} {N : Addr} {m : Str → Option Value} {n : Str} {v : Value} (X : K.In h) (G : h.Ns N m) (e : PySem.W.nsIn K N n = some (some v)) : m n = some v := by
  obtain ⟨o, es, ep, ho, hd, _, hf⟩ := G
  unfold PySem.W.nsIn at e
  split at e
  · rename_i c d es' n' sl q
    have := X _ _ q
    rw [ho] at this
    cases this
    cases hd
    split at e
    · rename_i en he
      cases e
      rw [← hf]
      unfold nsFind findBy
      rw [← Array.find?_toList, he]
      rfl
    · split at e <;> cases e
  · cases e
section
variable {X : Cx} {C f : Addr} {fd : FuncData} {ps : List Str} {R : Addr → Addr → Bool → Hp → Prop} {k j : Nat}
theorem op_eqI (O : OwnC X.K C f) (F : FnOk X.prog X.w X.K X.mg X.base C8.CX0 k f fd ps (spEqI R)) (hb : Binds X.K fd ps []) (hr : Room j X.A) (hj : k ≤ j) : OpR X (compareOp .Eq) (rEqI C false R) := by
  intro pins s σ H x y v u Q I rx ry hq
  obtain ⟨a, b, r, dx, dy, fs, gs, rfl, rfl, ha, hb', hr', q⟩ := hq
  cases rx
  cases ry
  show wpAny (model X.prog X.w) X.A (richCompare .Eq (.ref a) (.ref b)) (EP X pins σ Q) X.xe s
  obtain ⟨mA, J, _⟩ := ins_get I.hok ha
  obtain ⟨mB, J', _⟩ := ins_get I.hok hb'
  obtain ⟨od, J, _⟩ := J.look
  obtain ⟨od', J', _⟩ := J'.look
  obtain ⟨m, hF⟩ := I.fr
  refine PySem.W.cmp_K (op := .Eq) (tb := .ref C) hr.units0 hF I.ok.mod.kin J J'.type (by simp [PySem.W.notFirst]) O.hs O.hf ?_
  refine thn (run_fn (us := [.ref a, .ref b]) (vs := [.ref a, .ref b]) (Q := fun v H' => v = .bl r ∧ Same H H') F (hr.mono hj) hb .nil pass0 I (.cons rfl (.cons rfl .nil)) ⟨a, b, r, rfl, hr', fun H' e => ⟨rfl, e⟩⟩) fun z s1 hz => ?_
  obtain ⟨v, H', I1, rv, e, sm⟩ := hz
  subst e
  obtain rfl : z = Value.bool r := rv
  refine ⟨.bl (r != false), H', I1, ?_, q H' sm⟩
  show Value.bool r = Value.bool (r != false)
  cases r <;> rfl
theorem op_neI (O : OwnC X.K C f) (F : FnOk X.prog X.w X.K X.mg X.base C8.CX0 k f fd ps (spEqI R)) (hb : Binds X.K fd ps []) (hr : Room j X.A) (hj : k + 1 ≤ j) : OpR X (compareOp .NotEq) (rEqI C true R) := by
  intro pins s σ H x y v u Q I rx ry hq
  obtain ⟨a, b, r, dx, dy, fs, gs, rfl, rfl, ha, hb', hr', q⟩ := hq
  cases rx
  cases ry
  obtain ⟨mA, J, _⟩ := ins_get I.hok ha
  obtain ⟨mB, J', _⟩ := ins_get I.hok hb'
  obtain ⟨nm, qn, N, bs, hdct, sn, sub, ab, col, dd, k0, k1, k2, k3, k5, newId, lC, nk, ne, nn⟩ := O.cls
  have KX := I.kIn
  have G : s.heap.Ns N (s.heap.nsMap N) := .of_isNs (PySem.W.isNs_of_in KX nk)
  have tf : PySem.W.typeIn X.K (.ref f) = some (.type "function") := beq_iff_eq.mp O.hf
  obtain ⟨of, lf, hcf⟩ := Option.map_eq_some_iff.mp (show (X.K.lookup f).map (·.cls) = some (.type "function") from tf)
  have W : s.heap.OwnEqNoNe a C f "object" [.type "object"] :=
    ⟨_, of, nm, qn, N, bs, hdct, sn, sub, ab, col, dd, k0, k1, k2, k3, k5, newId, _, _, J.obj, rfl, KX _ _ lC, G, ns_some KX G ne, KX _ _ lf, hcf, PySem.F.cmp_object.mro, PySem.F.cmp_object.eq.lookup, PySem.W.ns_none_of KX G nn⟩
  have e0 : Env0 X.prog X.w X.K X.mg X.base X.A.in1 X.stack s H := by
    have e := I.env0
    exact ⟨e.frames, e.mod, e.bs, e.bsz, e.funs, e.frf, e.hok, e.bare⟩
  have hsp : spEqI R [.ref a, .ref b] H (fun v H' => v = .bl r ∧ Same H H') (fun _ _ _ => False) := ⟨a, b, r, rfl, hr', fun H' e => ⟨rfl, e⟩⟩
  have hl := F.len _ _ _ _ hsp
  have hu : X.A.units + 1 < cLine := (hr.mono hj).in1.units0
  have run := F.run X.A.in1 X.stack s H ⟨[.ref a, .ref b], []⟩ [.ref a, .ref b] [.ref a, .ref b] _ (fun _ _ _ => False) ((hr.mono hj).in1) e0 (by
    have := hb s [.ref a, .ref b] KX (by simpa using hl)
    simpa using this) (.cons rfl (.cons rfl .nil)) hsp
  obtain ⟨hp, g, d, t, os⟩ := s
  refine compareOp_ne_ownEq (prog := X.prog) (w := X.w) PySem.F.cmp_object W J'.obj rfl hu (wpAny_call (codeAny_mono run fun z s' hz => ?_))
  cases z with
  | error e => exact pass0 pins σ H _ e s' I hz
  | ok fl =>
    cases fl with
    | ret w =>
      obtain ⟨v, H', I1, rv, ev, sm⟩ := I.after hz
      subst ev
      obtain rfl : w = Value.bool r := rv
      refine ⟨r, rfl, .bl (r != true), H', I1, ?_, q H' sm⟩
      show Value.bool (!r) = Value.bool (r != true)
      cases r <;> rfl
    | next => exact False.elim hz
    | brk => exact False.elim hz
    | cont => exact False.elim hz
/-- one of two rules for an operator -/
theorem op_alt {g : Value → Value → Sem Value} {r1 r2 : R2} (h1 : OpR X g r1) (h2 : OpR X g r2) : OpR X g (fun x y H Q => r1 x y H Q ∨ r2 x y H Q) := by
  intro pins s σ H x y v u Q I rx ry h
  rcases h with h | h
  · exact h1 pins s σ H x y v u Q I rx ry h
  · exact h2 pins s σ H x y v u Q I rx ry h
end
end Vf

set_option maxRecDepth 100000
set_option maxHeartbeats 4000000
namespace Vf
open PySem PySem.Spec PyProof.Rows L2 SX
/-! ### match over texts -/
structure MC (X : Cx) (cs : List MatchCase) (t : V → TS) : Prop where
  run : ∀ (first : Bool) (pins : List (Addr × Obj)) (s : Shared) (σ : L2.St) (H : Hp) (D : Ends) (x : V) (v : Value), Inv X pins σ H s → RelV x v → t x D σ H → wpAny (model X.prog X.w) X.A (matchCases cs X.env v first) (SP X pins D) X.xe s
section
variable {X : Cx}
theorem mc_nil : MC X [] (fun _ => tNext) := ⟨fun _ pins s σ H D x v I _ h => by
  rw [arm_matchCases_nil]
  exact wpAny_pure ⟨σ, H, I, h⟩⟩
def tMv (s : Str) (tb : TS) (tr : V → TS) : V → TS := fun x D σ H => ∃ y : Str, x = .str y ∧ if decide (y = s) = true then tb D σ H else tr x D σ H
theorem mc_val {s : Str} {j : Nat} {p1 p2 : Pos} {body : List Stmt} {rest : List MatchCase} {tb : TS} {tr : V → TS} (hb : PSs X body tb) (hr : MC X rest tr) :
    MC X (⟨.MatchValue (.Constant (.str s) j p1) p2, none, body⟩ :: rest) (tMv s tb tr) := by
  refine ⟨fun first pins sh σ H D x v I rx h => ?_⟩
  obtain ⟨y, rfl, h⟩ := h
  rw [arm_matchCases_cons]
  refine wpAny_bind (wpAny_holding ?_)
  rw [arm_matchPattern_MatchValue]
  refine wpAny_bind (thn (pe_str.run pins sh σ H (fun z H1 => z = .str s ∧ H1 = H) I ⟨rfl, rfl⟩) fun u s1 ⟨z, H1, I1, rz, e1, e2⟩ => ?_)
  subst e1
  subst e2
  refine wpAny_bind (wpAny_standAt ?_)
  refine wpAny_bind (thn (op_eq pins s1 σ H1 (.str y) (.str s) v u (fun z H2 => z = .bl (decide (y = s)) ∧ H2 = H1) I1 rx rz ⟨rfl, by rw [show decide (V.str y = V.str s) = decide (y = s) from decide_eq_decide.mpr ⟨fun z => V.str.inj z, fun z => by rw [z]⟩]; exact ⟨rfl, rfl⟩⟩) fun b s2 ⟨z, H2, I2, rb, e1, e2⟩ => ?_)
  subst e1
  subst e2
  obtain rfl : b = Value.bool (decide (y = s)) := rb
  refine wpAny_bind (wpAny_truthy_bool ?_)
  by_cases e : y = s
  · rw [decide_eq_true e] at h ⊢
    rw [if_pos rfl] at h ⊢
    refine wpAny_pure ?_
    refine wpAny_bind (wpAny_holding ?_)
    first
      | (show wpAny _ _ (assignInOrder [] []) _ _ _; unfold assignInOrder)
      | skip
    refine wpAny_pure ?_
    refine wpAny_bind (wpAny_pure ?_)
    show wpAny _ _ (execs body X.env) _ _ _
    exact hb.run pins s2 σ H2 D I2 h
  · rw [decide_eq_false e] at h ⊢
    rw [if_neg Bool.false_ne_true] at h ⊢
    refine wpAny_pure ?_
    exact hr.run false pins s2 σ H2 D _ v I2 rx h
/-- case _ -/
theorem mc_any {p : Pos} {body : List Stmt} {rest : List MatchCase} {tb : TS} (hb : PSs X body tb) : MC X (⟨.MatchAs none none p, none, body⟩ :: rest) (fun _ => tb) := by
  refine ⟨fun first pins sh σ H D x v I rx h => ?_⟩
  rw [arm_matchCases_cons]
  refine wpAny_bind (wpAny_holding ?_)
  rw [arm_matchPattern_MatchAs]
  refine wpAny_pure ?_
  refine wpAny_bind (wpAny_holding ?_)
  first
    | (show wpAny _ _ (assignInOrder [] []) _ _ _; unfold assignInOrder)
    | skip
  refine wpAny_pure ?_
  refine wpAny_bind (wpAny_pure ?_)
  show wpAny _ _ (execs body X.env) _ _ _
  exact hb.run pins sh σ H D I h
/-- a match statement -/
def tMatch (te : TE) (ts : V → TS) : TS := fun D σ H => te σ H fun x H1 => ts x D σ H1
theorem ps_match {e : Expr} {cs : List MatchCase} {pos : Pos} {te : TE} {ts : V → TS} (he : PE X e te) (hc : MC X cs ts) : PS X (.Match e cs pos) (tMatch te ts) := by
  refine ⟨fun pins s σ H D I h => ?_⟩
  rw [arm_exec_Match]
  refine wpAny_bind (wpAny_standAt ?_)
  refine wpAny_bind (thn (he.run pins s σ H _ I h) fun v s1 ⟨x, H1, I1, rx, q⟩ => ?_)
  exact hc.run true pins s1 σ H1 D x v I1 rx q
end
end Vf

set_option maxRecDepth 100000
set_option maxHeartbeats 4000000
namespace Vf
open PySem PySem.Spec PyProof.Rows L2 SX LamX
/-! ### a def whose code object is told; lambdas handed on -/
structure FunC (K : PySem.W.Frag) (mg : Str → Option Value) (x : Str) (st : Stmt) (f : Addr) (fd : FuncData) (c : Addr) : Prop where
  ex : ∃ (oc : Value) (od : Option Addr) (dV kV doc pm : Value) (an : Option Addr) (ct : Value) (osl : Array (Option Value)),
    fd = PySem.W.fnOf x x (C8.fnArgs st) (C8.fnBody st) (C8.fnScope st) dV kV doc pm an (.ref c) ct ∧ K.lookup f = some ⟨oc, od, .func fd, osl⟩ ∧ PySem.W.codeIn K (.ref c) x = true
  mgf : mg x = some (.ref f)
  kp : PySem.W.keepIn K (.ref f) = true
section
variable {P : Program} {w : World} {K : PySem.W.Frag} {mg : Str → Option Value} {base : Heap}
theorem cal0c {x : Str} {st : Stmt} {f c : Addr} {fd : FuncData} {N ps : List Str} {k : Nat} {sp : Sp} (F : FunC K mg x st f fd c) (b : Binds K fd ps []) (S : FnScope N ps (C8.fnScope st)) (len : ∀ vs H Q E, sp vs H Q E → vs.length = ps.length)
    (hb : ∀ (A : Around) (outer : List Env) (s : Shared) (H : Hp) (vs : List V) (Q : VK) (E : XK), Room k (A.deeper (envOfC x (C8.fnScope st) s.heap.objs.size f (.ref c))) → sp vs H Q E →
      ∃ t, PSs (cxOf C8.CX0 P w K mg base N x (C8.fnScope st) f (.ref c) A outer s H E).nox (C8.fnBody st) t ∧ t { nx := fun _ h => Q .non h, rt := Q } (L2.start N vs) H) : C8.Cal P w K mg base (k + 1) x sp [] := by
  obtain ⟨oc, od, dV, kV, dc, pm, an, ct, sl, rfl, lk, hc⟩ := F.ex
  refine ⟨f, _, ps, [], fn_of lk hc S len fun A outer s H vs Q E hr h => ?_, F.mgf, F.kp, b, .nil⟩
  obtain ⟨t, h1, q⟩ := hb A outer s H vs Q E hr h
  exact ⟨t, h1.nox, q⟩
end
/-! ### repr of scalars -/
def reprV : V → Str
  | .non => "None"
  | .bl b => if b then "True" else "False"
  | .int i => toString i
  | .str x => reprText x
  | _ => ""
def ScR (v : V) : Prop := v = .non ∨ (∃ b, v = .bl b) ∨ (∃ i : Int, v = .int i ∧ i.natAbs.log2 < 1920) ∨ ∃ x : Str, v = .str x ∧ (reprText x).length ≤ sizeLine
theorem call_reprS {X : Cx} : CallR X (.builtin "repr") (fun xs H Q => ∃ v, xs = [v] ∧ ScR v ∧ Q (.str (reprV v)) H) := by
  intro pins s σ H xs us Q I r h
  obtain ⟨v, rfl, hv, q⟩ := h
  rcases hv with rfl | ⟨b, rfl⟩ | ⟨i, rfl, hz⟩ | ⟨x, rfl, hz⟩
  · obtain ⟨u, rfl, ru⟩ := vals1 r
    cases ru
    exact PySem.P.repr_of_none ⟨.str _, H, I.tok _, ⟨_, rfl⟩, q⟩
  · obtain ⟨u, rfl, ru⟩ := vals1 r
    cases ru
    exact PySem.P.repr_of_bool ⟨.str _, H, I.tok _, ⟨_, rfl⟩, q⟩
  · obtain ⟨u, rfl, t, rfl⟩ := vals1 r
    exact PySem.P.repr_of_int hz ⟨.str _, H, I.tok _, ⟨_, rfl⟩, q⟩
  · obtain ⟨u, rfl, t, rfl⟩ := vals1 r
    exact PySem.P.repr_of_str ⟨.str _, H, I.tok _, ⟨_, rfl⟩, q⟩ hz
/-! ### isinstance of a caught error that has a dict of its own -/
def rIsE2 (K : PySem.W.Frag) (cls : Value) (d : Option Addr) (a : Addr) : List V → Hp → VK → Prop := fun xs H Q => ∃ (D dd : Addr) (fs : List (Str × V)) (c : V) (cv : Value) (b : Bool), cls = .ref D ∧ d = some dd ∧ H dd = some (.xd fs) ∧ xs = [.ref a, c] ∧ ExcC K D ∧ (∀ u, RelV c u → u = cv) ∧ PySem.W.kitOne K (.ref D) cv = some b ∧ Q (.bl b) H
theorem call_isE2 {X : Cx} {a : Addr} {cls : Value} {d : Option Addr} {oe : Obj} {pn : List (Addr × Obj)} (hz : Zc cls d oe) (hf : ∃ vs, oe.data = .fields vs) : CallR (X.suite a ((a, oe) :: pn)) (.builtin "isinstance") (rIsE2 X.K cls d a) := by
  intro pins s σ H xs us Q I r h
  obtain ⟨D, dd, fs, c, cv, b, rfl, rfl, hd, rfl, C, hcv, e, q⟩ := h
  obtain ⟨u1, u2, rfl, r1, r2⟩ := vals2 r
  have ec := hcv _ r2
  subst ec
  obtain rfl : u1 = Value.ref a := r1
  obtain ⟨hget, _⟩ := I.pin (a, oe) (List.mem_append.mpr (.inl List.mem_cons_self))
  obtain ⟨vs, hv⟩ := hf
  have hx : ObjOk X.prog X.w H s.heap dd (.xd fs) := I.hok dd _ hd
  obtain ⟨mA, hns, _⟩ := hx
  obtain ⟨od, ho, _⟩ := lookIn_ns hns
  have J : PySem.W.InstAt s.heap a oe D (some od) := ⟨hget, hz.1, by unfold PySem.W.notCls; rw [hv] <;> rfl, by rw [hz.2]; exact ho⟩
  exact PySem.W.kia_one (kitx_exo C) I.kIn J e (fun z => nomatch z) fun tk => ⟨.bl b, H, I.tok tk, rfl, q⟩
theorem pe_fldK {X : Cx} {K : PySem.W.Frag} {e : Expr} {f : Str} {pos : Pos} {ta : TE} (hK : X.K = K) (he : PE X e ta) (hb : attributeBase e f X.env (eval e X.env) = eval e X.env) : PE X (.Attribute e f pos) (tFld K ta f) := by
  subst hK
  exact pe_fld he hb
def tKIx (K : PySem.W.Frag) (w : World) (td ty : TE) : TE := fun σ H Q => td σ H fun x H1 => ∃ d f, x = .ref d ∧ KD K w d f ∧ ty σ H1 fun y H2 => ∃ k v, y = .str k ∧ f k = some v ∧ Q v H2
/-- d[k], d a dict of the written part -/
theorem pe_kix {X : Cx} {o i : Expr} {pos : Pos} {td ty : TE} {K : PySem.W.Frag} {w : World} (hK : X.K = K) (hw : X.w = w) (ho : PE X o td) (hi : PE X i ty) (hs : NoSl i) : PE X (.Subscript o i pos) (tKIx K w td ty) := by
  subst hK hw
  refine ⟨fun pins s σ H Q I h => ?_⟩
  refine subD_of PySem.F.slot_dict_getitem.lookup hs (thn (ho.run pins s σ H _ I h) fun u s1 ⟨x, H1, I1, rx, d, g, ex, ⟨es, n, hl, hk, low, hg⟩, q1⟩ => thn (hi.run pins s1 σ H1 _ I1 q1) fun iv s2 ⟨y, H2, I2, ry, k, v, ey, ev, q2⟩ => ?_)
  subst ex
  subst ey
  obtain rfl : u = Value.ref d := rx
  obtain ⟨t, rfl⟩ := ry
  have hm := PySem.W.mapOf_K (prog := X.prog) (w := X.w) I2.kIn hl hk
  obtain ⟨z, hz, rz⟩ := RelO.some_of (v := v) (o := findBy Value.isStrOf es k) (by rw [← ev]; exact hg k)
  exact ⟨hm.typeIs, wpAny_getItem_of (strKind_is X.prog X.w k t) hm hz ⟨v, H2, I2.tok _, rz, q2⟩⟩
theorem pe_cls {X : Cx} {n : Str} {C : Addr} {p : Pos} (g : X.mg n = some (.ref C)) (hg : Gl X n) (hd : (n == ("__debug__" : Str)) = false := by decide) : PE X (.Name n p) (tC (.ref C)) := C8.pe_gc hg ⟨_, g, rfl⟩ hd
/-- what the two error classes say of one another -/
structure XF (K : PySem.W.Frag) (CB CN CW : Addr) : Prop where
  bb : PySem.W.exmOne K (.ref CB) (.ref CB) = some true
  nb : PySem.W.exmOne K (.ref CN) (.ref CB) = some false
  nn : PySem.W.exmOne K (.ref CN) (.ref CN) = some true
  bn : PySem.W.exmOne K (.ref CB) (.ref CN) = some false
  kb : PySem.W.kitOne K (.ref CB) (.ref CW) = some true
  kn : PySem.W.kitOne K (.ref CN) (.ref CW) = some true
  eb : ExcC K CB
  en : ExcC K CN
end Vf

set_option maxRecDepth 100000
set_option maxHeartbeats 4000000
namespace Vf
open PySem PySem.Spec PyProof.Rows L2 SX
def topS (i : Nat) : Stmt := PySem.Challenge.pw_textworkshop_k26_line_tests.main.body.getD i (.Pass ⟨0, 0, 0, 0⟩)
abbrev s_isText : Stmt := topS 7
def N_isText : List Str := ["value", "sign"]
theorem sc_isText : FnScope N_isText ["value"] (C8.fnScope s_isText) := C8.fnScope_by (by decide +kernel)
abbrev s_isPatch : Stmt := topS 8
def N_isPatch : List Str := ["value"]
theorem sc_isPatch : FnScope N_isPatch ["value"] (C8.fnScope s_isPatch) := C8.fnScope_by (by decide +kernel)
abbrev s_isWhole : Stmt := topS 9
def N_isWhole : List Str := ["value"]
theorem sc_isWhole : FnScope N_isWhole ["value"] (C8.fnScope s_isWhole) := C8.fnScope_by (by decide +kernel)
abbrev s_LineTest_init : Stmt := (C8.clsBody (topS 15)).getD 0 (.Pass ⟨0, 0, 0, 0⟩)
def N_LineTest_init : List Str := ["self", "word", "argument", "parts", "negated"]
theorem sc_LineTest_init : FnScope N_LineTest_init ["self", "word", "argument", "parts", "negated"] (C8.fnScope s_LineTest_init) := C8.fnScope_by (by decide +kernel)
abbrev s_LineTest_eq : Stmt := (C8.clsBody (topS 15)).getD 1 (.Pass ⟨0, 0, 0, 0⟩)
def N_LineTest_eq : List Str := ["self", "other"]
theorem sc_LineTest_eq : FnScope N_LineTest_eq ["self", "other"] (C8.fnScope s_LineTest_eq) := C8.fnScope_by (by decide +kernel)
abbrev s_LineTest_truths : Stmt := (C8.clsBody (topS 15)).getD 2 (.Pass ⟨0, 0, 0, 0⟩)
def N_LineTest_truths : List Str := ["self", "lines", "plain", "place", "truth"]
theorem sc_LineTest_truths : FnScope N_LineTest_truths ["self", "lines"] (C8.fnScope s_LineTest_truths) := C8.fnScope_by (by decide +kernel)
abbrev s_plainTruth : Stmt := topS 16
def N_plainTruth : List Str := ["test", "lines", "place", "line", "argument"]
theorem sc_plainTruth : FnScope N_plainTruth ["test", "lines", "place"] (C8.fnScope s_plainTruth) := C8.fnScope_by (by decide +kernel)
abbrev s_rangeTruths : Stmt := topS 17
def N_rangeTruths : List Str := ["begins", "ends", "truths", "inside", "begin", "end"]
theorem sc_rangeTruths : FnScope N_rangeTruths ["begins", "ends"] (C8.fnScope s_rangeTruths) := C8.fnScope_by (by decide +kernel)
abbrev s_plainTest : Stmt := topS 18
def N_plainTest : List Str := ["word", "argument"]
theorem sc_plainTest : FnScope N_plainTest ["word", "argument"] (C8.fnScope s_plainTest) := C8.fnScope_by (by decide +kernel)
abbrev s_rangeTest : Stmt := topS 19
def N_rangeTest : List Str := ["first", "second"]
theorem sc_rangeTest : FnScope N_rangeTest ["first", "second"] (C8.fnScope s_rangeTest) := C8.fnScope_by (by decide +kernel)
abbrev s_otherTest : Stmt := topS 20
def N_otherTest : List Str := ["test"]
theorem sc_otherTest : FnScope N_otherTest ["test"] (C8.fnScope s_otherTest) := C8.fnScope_by (by decide +kernel)
abbrev s_isPlain : Stmt := topS 21
def N_isPlain : List Str := ["value"]
theorem sc_isPlain : FnScope N_isPlain ["value"] (C8.fnScope s_isPlain) := C8.fnScope_by (by decide +kernel)
abbrev s_isLineWord : Stmt := topS 22
def N_isLineWord : List Str := ["value"]
theorem sc_isLineWord : FnScope N_isLineWord ["value"] (C8.fnScope s_isLineWord) := C8.fnScope_by (by decide +kernel)
abbrev s_isWithin : Stmt := topS 23
def N_isWithin : List Str := ["value", "bounds"]
theorem sc_isWithin : FnScope N_isWithin ["value", "bounds"] (C8.fnScope s_isWithin) := C8.fnScope_by (by decide +kernel)
abbrev s_pen : Stmt := topS 25
def N_pen : List Str := ["_law_script", "_law_fold", "_law_cell"]
theorem sc_pen : FnScope N_pen ["_law_script"] (C8.fnScope s_pen) := C8.fnScope_by (by decide +kernel)
abbrev s_draw : Stmt := topS 26
def N_draw : List Str := ["_law_pen_here", "_law_many", "_law_cell", "_law_digit", "_law_mixed"]
theorem sc_draw : FnScope N_draw ["_law_pen_here", "_law_many"] (C8.fnScope s_draw) := C8.fnScope_by (by decide +kernel)
abbrev s_pick : Stmt := topS 27
def N_pick : List Str := ["_law_pen_here", "_law_some"]
theorem sc_pick : FnScope N_pick ["_law_pen_here", "_law_some"] (C8.fnScope s_pick) := C8.fnScope_by (by decide +kernel)
abbrev s_signs : Stmt := topS 28
def N_signs : List Str := ["_law_pen_here"]
theorem sc_signs : FnScope N_signs ["_law_pen_here"] (C8.fnScope s_signs) := C8.fnScope_by (by decide +kernel)
abbrev s_lawWord : Stmt := topS 29
def N_lawWord : List Str := ["_law_pen_here", "_law_signs_here", "_law_most", "_law_k"]
theorem sc_lawWord : FnScope N_lawWord ["_law_pen_here", "_law_signs_here", "_law_most"] (C8.fnScope s_lawWord) := C8.fnScope_by (by decide +kernel)
abbrev s_patch : Stmt := topS 30
def N_patch : List Str := ["_law_pen_here", "_law_signs_here", "_law_most"]
theorem sc_patch : FnScope N_patch ["_law_pen_here", "_law_signs_here", "_law_most"] (C8.fnScope s_patch) := C8.fnScope_by (by decide +kernel)
abbrev s_lawText : Stmt := topS 31
def N_lawText : List Str := ["_law_pen_here", "_law_signs_here", "_law_most", "_law_k"]
theorem sc_lawText : FnScope N_lawText ["_law_pen_here", "_law_signs_here", "_law_most"] (C8.fnScope s_lawText) := C8.fnScope_by (by decide +kernel)
abbrev s_lawPlainTest : Stmt := topS 32
def N_lawPlainTest : List Str := ["_law_pen_here", "_law_signs_here", "_law_words", "_law_word_here", "_law_argument"]
theorem sc_lawPlainTest : FnScope N_lawPlainTest ["_law_pen_here", "_law_signs_here"] (C8.fnScope s_lawPlainTest) := C8.fnScope_by (by decide +kernel)
abbrev s_lawTest : Stmt := topS 33
def N_lawTest : List Str := ["_law_pen_here", "_law_signs_here", "_law_check"]
theorem sc_lawTest : FnScope N_lawTest ["_law_pen_here", "_law_signs_here"] (C8.fnScope s_lawTest) := C8.fnScope_by (by decide +kernel)
abbrev s_longWord : Stmt := topS 34
def N_longWord : List Str := ["_law_pen_here"]
theorem sc_longWord : FnScope N_longWord ["_law_pen_here"] (C8.fnScope s_longWord) := C8.fnScope_by (by decide +kernel)
abbrev s_longText : Stmt := topS 35
def N_longText : List Str := ["_law_pen_here", "_law_found", "_law_k", "_law_word_here"]
theorem sc_longText : FnScope N_longText ["_law_pen_here"] (C8.fnScope s_longText) := C8.fnScope_by (by decide +kernel)
abbrev s_longTest : Stmt := topS 36
def N_longTest : List Str := ["_law_pen_here", "_law_word_here", "_law_argument", "_law_check"]
theorem sc_longTest : FnScope N_longTest ["_law_pen_here"] (C8.fnScope s_longTest) := C8.fnScope_by (by decide +kernel)
abbrev s_testMade : Stmt := topS 37
def N_testMade : List Str := ["_law_check", "_law_word_here", "_law_argument", "_law_first", "_law_second", "_law_negated", "_law_found"]
theorem sc_testMade : FnScope N_testMade ["_law_check"] (C8.fnScope s_testMade) := C8.fnScope_by (by decide +kernel)
abbrev s_lawPlainTruth : Stmt := topS 38
def N_lawPlainTruth : List Str := ["_law_check", "_law_lines", "_law_k", "_law_word_here", "_law_argument", "_law_line"]
theorem sc_lawPlainTruth : FnScope N_lawPlainTruth ["_law_check", "_law_lines", "_law_k"] (C8.fnScope s_lawPlainTruth) := C8.fnScope_by (by decide +kernel)
abbrev s_lawTruths : Stmt := topS 39
def N_lawTruths : List Str := ["_law_check", "_law_lines", "_law_found", "_law_begun", "_law_k"]
theorem sc_lawTruths : FnScope N_lawTruths ["_law_check", "_law_lines"] (C8.fnScope s_lawTruths) := C8.fnScope_by (by decide +kernel)
abbrev s_refused : Stmt := topS 40
def N_refused : List Str := ["_law_action", "e"]
theorem sc_refused : FnScope N_refused ["_law_action"] (C8.fnScope s_refused) := C8.fnScope_by (by decide +kernel)
abbrev s_isMadeRight : Stmt := topS 41
def N_isMadeRight : List Str := ["_law_check", "_law_made", "_law_word_here"]
theorem sc_isMadeRight : FnScope N_isMadeRight ["_law_check"] (C8.fnScope s_isMadeRight) := C8.fnScope_by (by decide +kernel)
abbrev s_byHand : Stmt := topS 42
def N_byHand : List Str := ["_law_rows", "_law_first", "_law_second", "_law_lines", "_law_numbers", "_law_made", "_law_told", "_law_k", "_law_truth"]
theorem sc_byHand : FnScope N_byHand [] (C8.fnScope s_byHand) := C8.fnScope_by (by decide +kernel)
abbrev s_areRefused : Stmt := topS 43
def N_areRefused : List Str := ["_law_pen_here", "_law_none", "_law_found", "_law_odd", "_law_word_here", "_law_number", "_law_least", "_law_right", "_law_away", "_law_twice"]
theorem sc_areRefused : FnScope N_areRefused ["_law_pen_here"] (C8.fnScope s_areRefused) := C8.fnScope_by (by decide +kernel)
abbrev s_law : Stmt := topS 44
def N_law : List Str := ["_law_script", "_law_pen_here", "_law_signs_here", "_law_turn", "_law_check", "_law_other", "_law_lines"]
theorem sc_law : FnScope N_law ["_law_script"] (C8.fnScope s_law) := C8.fnScope_by (by decide +kernel)
structure Tx (K : PySem.W.Frag) (w : World) (mg : Str → Option Value) : Prop where
  z_all : mg "all" = none
  z_str : mg "str" = none
  z_isinstance : mg "isinstance" = none
  z_len : mg "len" = none
  z_bool : mg "bool" = none
  z_int : mg "int" = none
  z_range : mg "range" = none
  z_tuple : mg "tuple" = none
  z_zip : mg "zip" = none
  z_list : mg "list" = none
  z_repr : mg "repr" = none
  g_SIGNS : ∃ u, mg "SIGNS" = some u ∧ RelV (.str (S signsL)) u
  g_LONGEST_WORD : ∃ u, mg "LONGEST_WORD" = some u ∧ RelV (.int 6) u
  g_WORD_TESTS : ∃ d, (∃ u, mg "WORD_TESTS" = some u ∧ RelV (.ref d) u) ∧ ∀ H : Hp, SqT K H d [.str "begins", .str "ends", .str "has", .str "is"]
  g_NUMBER_TESTS : ∃ d, (∃ u, mg "NUMBER_TESTS" = some u ∧ RelV (.ref d) u) ∧ ∀ H : Hp, SqT K H d [.str "short", .str "number"]
  g_BARE_TESTS : ∃ d, (∃ u, mg "BARE_TESTS" = some u ∧ RelV (.ref d) u) ∧ ∀ H : Hp, SqT K H d [.str "all", .str "last"]
  g_BOUNDS : ∃ d, (∃ u, mg "BOUNDS" = some u ∧ RelV (.ref d) u) ∧ ∃ a b, KD K w d (fun z => if z = "short" then some (.ref a) else if z = "number" then some (.ref b) else none) ∧ (∀ H : Hp, SqT K H a [.int 0, .int 40]) ∧ ∀ H : Hp, SqT K H b [.int 1, .int 6]
end Vf

set_option maxRecDepth 100000
set_option maxHeartbeats 4000000
namespace Vf
open PySem PySem.Spec PyProof.Rows L2 SX
section
variable {K : PySem.W.Frag} {C a : Addr} {H : Hp} {Q : VK} {rt : VK}
abbrev Qx (C a : Addr) (H : Hp) (Q : VK) (fs : List (Str × V)) : Prop := ∀ (d : Addr) (H2 : Hp), H d = none → d ≠ a → H2 a = some (exo a C (some d)) → H2 d = some (exd d fs) → (∀ b o, b ≠ a → H b = some o → H2 b = some o) → (∀ b, H2 b = none → H b = none) → Q .non H2
theorem inx1 {f : Str} {y : V} {σ : L2.St} (O : OexC K C) (no : ∀ g ∈ [f], PySem.W.findIn K (.ref C) g = some none) (ha : H a = some (exo a C none)) (q : Qx C a H Q ([f].zip [y]).reverse)
    (s0 : σ[0]? = some (some (.ref a))) (s1 : σ[1]? = some (some y)) : tOst K f (tVar 0) (tVar 1) { nx := fun _ h => Q .non h, rt := rt } σ H := by
  refine ⟨y, s1, .ref a, s0, a, C, rfl, O, no f (List.mem_singleton.mpr rfl), .inl ⟨ha, fun d hd nd => q d _ hd nd upd_same (by rw [upd_ne nd]; exact upd_same) (fun b o n z => by rw [upd_ne n, upd_ne (ne_of_none z hd)]; exact z) (fun b z => ?_)⟩⟩
  by_cases e1 : b = a
  · subst e1; rw [upd_same] at z; cases z
  · rw [upd_ne e1] at z
    by_cases e2 : b = d
    · subst e2; exact hd
    · rw [upd_ne e2] at z; exact z
theorem inx2 {f1 f2 : Str} {y1 y2 : V} {σ : L2.St} (O : OexC K C) (no : ∀ g ∈ [f1, f2], PySem.W.findIn K (.ref C) g = some none) (ha : H a = some (exo a C none)) (q : Qx C a H Q ([f1, f2].zip [y1, y2]).reverse) :
    σ[0]? = some (some (.ref a)) → σ[1]? = some (some y1) → σ[2]? = some (some y2) → tSeq (tOst K f1 (tVar 0) (tVar 1)) (tOst K f2 (tVar 0) (tVar 2)) { nx := fun _ h => Q .non h, rt := rt } σ H := by
  intro s0 s1 s2
  refine ⟨y1, s1, .ref a, s0, a, C, rfl, O, no f1 (by simp), .inl ⟨ha, fun d hd nd => ?_⟩⟩
  have e1 : (upd (upd H d (exd d [(f1, y1)])) a (exo a C (some d))) a = some (exo a C (some d)) := upd_same
  have e2 : (upd (upd H d (exd d [(f1, y1)])) a (exo a C (some d))) d = some (exd d [(f1, y1)]) := by rw [upd_ne nd]; exact upd_same
  refine ⟨y2, s2, .ref a, s0, a, C, rfl, O, no f2 (by simp), .inr ⟨d, [(f1, y1)], e1, e2, by show 1 ≤ 900; omega, ?_⟩⟩
  refine q d _ hd nd (by rw [upd_ne nd.symm]; exact e1) upd_same (fun b o n z => ?_) (fun b z => ?_)
  · rw [upd_ne (ne_of_none z hd), upd_ne n, upd_ne (ne_of_none z hd)]; exact z
  · by_cases g1 : b = d
    · subst g1; exact hd
    · rw [upd_ne g1] at z
      by_cases g2 : b = a
      · subst g2; rw [upd_same] at z; cases z
      · rw [upd_ne g2, upd_ne g1] at z; exact z
end
abbrev i_BadWord : Stmt := (C8.clsBody (topS 2)).getD 0 (.Pass ⟨0, 0, 0, 0⟩)
theorem si_BadWord : FnScope ["self", "what"] ["self", "what"] (C8.fnScope i_BadWord) := C8.fnScope_by (by decide +kernel)
theorem ini_BadWord {P : Program} {w : World} {K : PySem.W.Frag} {mg : Str → Option Value} {base : Heap} {C f : Addr} {fd : FuncData} {q : Str} (O : OexC K C) (no : ∀ f ∈ (["what"] : List Str), PySem.W.findIn K (.ref C) f = some none) (F : C8.Fun K "__init__" q i_BadWord f fd) : FnOk P w K mg base C8.CX0 1 f fd ["self", "what"] (sp_inx C ["what"]) := by
  refine C8.fn0 F si_BadWord (fun vs H Q E h => ?_) (fun cdv A outer s H vs Q E hr h => ?_)
  · obtain ⟨a, ys, rfl, h, _⟩ := h; exact congrArg (· + 1) h
  refine ⟨_, (pss_one (ps_ost (pv 0) (pv 1))), ?_⟩
  obtain ⟨a, ys, rfl, hl, ha, q⟩ := h
  match ys, hl with
  | [y0], _ =>
    exact inx1 O no ha q rfl rfl
abbrev i_BadNumber : Stmt := (C8.clsBody (topS 3)).getD 0 (.Pass ⟨0, 0, 0, 0⟩)
theorem si_BadNumber : FnScope ["self", "what", "number"] ["self", "what", "number"] (C8.fnScope i_BadNumber) := C8.fnScope_by (by decide +kernel)
theorem ini_BadNumber {P : Program} {w : World} {K : PySem.W.Frag} {mg : Str → Option Value} {base : Heap} {C f : Addr} {fd : FuncData} {q : Str} (O : OexC K C) (no : ∀ f ∈ (["what", "number"] : List Str), PySem.W.findIn K (.ref C) f = some none) (F : C8.Fun K "__init__" q i_BadNumber f fd) : FnOk P w K mg base C8.CX0 1 f fd ["self", "what", "number"] (sp_inx C ["what", "number"]) := by
  refine C8.fn0 F si_BadNumber (fun vs H Q E h => ?_) (fun cdv A outer s H vs Q E hr h => ?_)
  · obtain ⟨a, ys, rfl, h, _⟩ := h; exact congrArg (· + 1) h
  refine ⟨_, (pss_cons (ps_ost (pv 0) (pv 1)) (pss_one (ps_ost (pv 0) (pv 2)))), ?_⟩
  obtain ⟨a, ys, rfl, hl, ha, q⟩ := h
  match ys, hl with
  | [y0, y1], _ =>
    exact inx2 O no ha q rfl rfl rfl
structure Es (P : Program) (w : World) (K : PySem.W.Frag) (mg : Str → Option Value) (base : Heap) (CBadWord CBadNumber CW : Addr) : Prop where
  r_BadWord : Rk P w K mg base "BadWord" CBadWord ["what"]
  r_BadNumber : Rk P w K mg base "BadNumber" CBadNumber ["what", "number"]
  x : XF K CBadWord CBadNumber CW
  g_WorkshopError : mg "WorkshopError" = some (.ref CW)

end Vf

set_option maxRecDepth 100000
set_option maxHeartbeats 4000000
namespace Vf
open PySem PySem.Spec PyProof.Rows L2 SX
section
variable {P : Program} {w : World} {K : PySem.W.Frag} {mg : Str → Option Value} {base : Heap}
/-! ### the promises -/
def spPost (p c : Addr) (m k : Nat) (H : Hp) (R : V → Hp → Prop) (Q : VK) : Prop := ∀ (H' : Hp) (v : V), Ks H H' → PenAt H' p c (m + k) → R v H' → Q v H'
def sp_pen (K : PySem.W.Frag) : Sp := fun vs H Q _ => ∃ (a : Addr) (ns : List Int), vs = [.ref a] ∧ SqL K H a (ns.map V.int) ∧ ns.length ≤ 63 ∧ ∀ (H' : Hp) (p c : Addr), Ks H H' → PenAt H' p c 0 → Q (.ref p) H'
def sp_draw : Sp := fun vs H Q _ => ∃ (p c : Addr) (m n : Nat), vs = [.ref p, .int (n : Int)] ∧ PenAt H p c m ∧ m < 1000000 ∧ 1 ≤ n ∧ n < 1073741824 ∧ ∀ (H' : Hp) (r : Nat), Ks H H' → PenAt H' p c (m + 1) → r < n → Q (.int (r : Int)) H'
def sp_pick : Sp := fun vs H Q _ => ∃ (p c : Addr) (m : Nat) (x : V), vs = [.ref p, x] ∧ PenAt H p c m ∧ m < 1000000 ∧
  ((∃ l : List Nat, x = .str (S l) ∧ 1 ≤ l.length ∧ l.length ≤ 1000000 ∧ ∀ (H' : Hp) (ch : Nat), Ks H H' → PenAt H' p c (m + 1) → ch ∈ l → Q (.str (S [ch])) H') ∨
   ∃ (a : Addr) (xs : List V), x = .ref a ∧ H a = some (.lst xs) ∧ 1 ≤ xs.length ∧ xs.length ≤ 1000000 ∧ ∀ (H' : Hp) (v : V), Ks H H' → PenAt H' p c (m + 1) → v ∈ xs → Q v H')

/-! ### a comprehension over a range whose element draws -/
theorem lc_pen {p c : Addr} {m0 n s : Nat} {te : TE} {k : Nat} {σ : L2.St} {H1 : Hp} {D : Addr} {Qd : Hp → Prop} (R : V → Hp → Prop) (stab : ∀ v H H', Tk H H' → R v H → R v H') (hk : k < σ.length) (hD : H1 D = none) (hp : PenAt H1 p c m0) (hn : n ≤ 1000000)
    (hs : ∀ (i : Nat) (H : Hp) (m : Nat) (Q : VK), i < n → PenAt H p c m → m ≤ m0 + i * s → (∀ (H' : Hp) (v : V), Ks H H' → PenAt H' p c (m + s) → R v H' → Q v H') → te ((wipe σ [k]).set k (some (.int ((0 : Int) + i)))) H Q)
    (hd : ∀ (H : Hp) (xs : List V), xs.length = n → (∀ v ∈ xs, R v H) → H D = some (.lst xs) → Ks H1 H → PenAt H p c (m0 + n * s) → Qd H) :
    ∃ W : Nat → Nat → Hp → Prop, (∃ m, W 0 m (upd H1 D (.lst []))) ∧ ∀ i m H, W i m H →
      ((Itr 0 n).stop i H ∧ Qd H) ∨ ((Itr 0 n).go i H ∧ ∃ Nx : Hp → Prop, (∀ H', Nx H' → ∃ m', m' < m ∧ W (i + 1) m' H') ∧ ∀ x H', (Itr 0 n).yld i H x H' → gName k x (wipe σ [k]) H' fun σ2 H2 => wipe σ2 [k] = wipe σ [k] ∧ tYes σ2 H2 fun b H3 =>
        if b = true then te σ2 H3 fun y H4 => ∃ acc, H4 D = some (.lst acc) ∧ acc.length < sizeLine ∧ Nx (upd H4 D (.lst (acc ++ [y]))) else Nx H3) := by
  have nD := hp.ne hD
  refine lc_range (lo := 0) (n := n) (fun i H => ∃ xs : List V, xs.length = i ∧ (∀ v ∈ xs, R v H) ∧ H D = some (.lst xs) ∧ Ks H1 H ∧ PenAt H p c (m0 + i * s)) ?_ ?_ ?_
  · exact ⟨[], rfl, (fun _ h => nomatch h), upd_same, Ks.new1 hD _, by rw [Nat.zero_mul]; exact hp.new hD⟩
  · rintro i H hi ⟨xs, e1, e2, e3, e4, e5⟩
    refine ⟨?_, ?_⟩
    · show ((σ.set k none).set k _).set k none = (σ.set k none)
      rw [List.set_set, List.set_set]
    · dsimp only [tYes]
      rw [if_pos rfl]
      refine hs i H _ _ hi e5 (Nat.le_refl _) (fun H' v k1 k2 k3 => ?_)
      refine ⟨xs, k1.lst e3, szL (by omega), xs ++ [v], by rw [List.length_append, e1]; rfl, fun u hu => ?_, upd_same, (e4.trans k1).upd hD _, ?_⟩
      · have tk : Tk H' (upd H' D (.lst (xs ++ [v]))) := (Tk.refl H').lst (k1.lst e3)
        rcases List.mem_append.mp hu with hu | hu
        · exact stab _ _ _ (k1.tk.trans tk) (e2 u hu)
        · rw [List.mem_singleton.mp hu]
          exact stab _ _ _ tk k3
      · rw [Nat.succ_mul, ← Nat.add_assoc]
        exact k2.upd nD.1 nD.2
  · rintro H ⟨xs, e1, e2, e3, e4, e5⟩
    exact hd H xs e1 e2 e3 e4 e5
/-- a list of one-sign texts -/
def Ones (P : Nat → Prop) (v : V) : Prop := ∃ ch, v = .str (S [ch]) ∧ P ch
theorem ones_of {P : Nat → Prop} : ∀ {xs : List V}, (∀ v ∈ xs, Ones P v) → ∃ t : List Nat, xs = ((t.map fun c => S [c]).map V.str) ∧ (∀ c ∈ t, P c)
  | [], _ => ⟨[], rfl, fun _ h => nomatch h⟩
  | v :: xs, h => by
    obtain ⟨t, e, ht⟩ := ones_of (xs := xs) fun u hu => h u (List.mem_cons_of_mem _ hu)
    obtain ⟨ch, e1, e2⟩ := h v (List.mem_cons_self ..)
    refine ⟨ch :: t, by rw [e1, e]; rfl, fun c hc => ?_⟩
    rcases List.mem_cons.mp hc with hc | hc
    · rw [hc]; exact e2
    · exact ht c hc
theorem joinL_ones : ∀ t : List Nat, TL.joinL [] (t.map fun c => [c]) = t
  | [] => rfl
  | [_] => rfl
  | c :: d :: t => by
    show [c] ++ ([] ++ TL.joinL [] ((d :: t).map fun c => [c])) = c :: d :: t
    rw [joinL_ones (d :: t)]
    rfl
theorem join_ones : ∀ t : List Nat, Txt.join (S []) (t.map fun c => S [c]) = S t := fun t => by
  have e : (t.map fun c => S [c]) = (t.map fun c => [c]).map S := by rw [List.map_map]; rfl
  rw [e, join_S]
  exact congrArg S (joinL_ones t)
theorem ones_len : ∀ t : List Nat, ((t.map fun c => S [c]).map (·.length)).sum = t.length
  | [] => rfl
  | c :: t => by
    have := ones_len t
    show 1 + ((t.map fun c => S [c]).map (·.length)).sum = t.length + 1
    omega
theorem ones_bound {t : List Nat} (h : t.length ≤ 1000000) : ((t.map fun c => S [c]).map (·.length)).sum + (t.map fun c => S [c]).length * (S []).length ≤ 16777216 := by
  rw [ones_len]
  show t.length + _ * 0 ≤ 16777216
  omega
/-! ### x.replace of one sign -/

theorem same_new {H0 H : Hp} {p : Addr} (s : Same H0 H) (h : H p = none) (o : HO) : Same H0 (upd H p o) := fun b u e => by
  rw [upd_ne (ne_of_none (s b u e) h)]
  exact s b u e
theorem same_upd {H0 H : Hp} {p : Addr} (s : Same H0 H) (h : H0 p = none) (o : HO) : Same H0 (upd H p o) := fun b u e => by
  rw [upd_ne (ne_of_none e h)]
  exact s b u e
theorem sz_1 : 1 ≤ sizeLine := by decide
theorem sz_2 : 2 ≤ sizeLine := by decide
theorem sz_3 : 3 ≤ sizeLine := by decide
theorem eq1 (c d : Nat) : decide (V.str (S [c]) = V.str (S [d])) = decide (c = d) := by
  by_cases h : c = d
  · subst h
    rw [decide_eq_true rfl, decide_eq_true rfl]
  · rw [decide_eq_false h]
    exact decide_eq_false fun z => h (List.cons.inj (S_inj (V.str.inj z))).1
def isS (c : Nat) : Bool := decide (c ∈ signsL)
def NotStr (K : PySem.W.Frag) (H : Hp) (x : V) : Prop := ∃ t, TyX K H x t ∧ PySem.W.kitOne K t (.type "str") = some false
theorem ifT {A B : Prop} (h : A) : if (true : Bool) = true then A else B := by rw [if_pos rfl]; exact h
theorem ifF {A B : Prop} (h : B) : if (false : Bool) = true then A else B := by rw [if_neg Bool.false_ne_true]; exact h
/-! ### rows of errors -/
/-! ### line tests -/
abbrev Pt : Type := Str × V
def tF (p : Pt) (x y : V) (n : Bool) : List (Str × V) := [("word", .str p.1), ("argument", p.2), ("first", x), ("second", y), ("negated", .bl n)]
def PlAt (C : Addr) (H : Hp) (a : Addr) (p : Pt) (n : Bool) : Prop := ∃ dx, H a = some (.ins C dx (tF p .non .non n))
inductive Tst
  | pl (p : Pt) (n : Bool)
  | rg (p q : Pt) (n : Bool)
def TsAt (C : Addr) (H : Hp) (a : Addr) : Tst → Prop
  | .pl p n => PlAt C H a p n
  | .rg p q n => ∃ dx b c, H a = some (.ins C dx (tF ("from", .non) (.ref b) (.ref c) n)) ∧ PlAt C H b p false ∧ PlAt C H c q false
def Tst.neg : Tst → Bool
  | .pl _ n => n
  | .rg _ _ n => n
def Tst.not : Tst → Tst
  | .pl p _ => .pl p true
  | .rg p q _ => .rg p q true
theorem PlAt.sm {C : Addr} {H H' : Hp} {a : Addr} {p : Pt} {n : Bool} (h : PlAt C H a p n) (s : Same H H') : PlAt C H' a p n := let ⟨dx, e⟩ := h; ⟨dx, s _ _ e⟩
theorem TsAt.sm {C : Addr} {H H' : Hp} {a : Addr} : ∀ {t : Tst}, TsAt C H a t → Same H H' → TsAt C H' a t
  | .pl _ _, h, s => PlAt.sm h s
  | .rg _ _ _, ⟨dx, b, c, e, h1, h2⟩, s => ⟨dx, b, c, s _ _ e, h1.sm s, h2.sm s⟩
inductive OkP : Pt → Prop
  | wd {k : Str} {t : List Nat} (h : k = "begins" ∨ k = "ends" ∨ k = "has" ∨ k = "is") (h1 : t.length ≤ 6) (h2 : ∀ c ∈ t, c ∈ signsL ∧ c ≠ 10) : OkP (k, .str (S t))
  | sh {n : Nat} (h : n ≤ 40) : OkP ("short", .int (n : Int))
  | nu {n : Nat} (h1 : 1 ≤ n) (h2 : n ≤ 6) : OkP ("number", .int (n : Int))
  | ba {k : Str} (h : k = "all" ∨ k = "last") : OkP (k, .non)
def OkT : Tst → Prop
  | .pl p _ => OkP p
  | .rg p q _ => OkP p ∧ OkP q
theorem OkP.nf {p : Pt} (h : OkP p) : p.1 ≠ "from" := by
  cases h with
  | @wd k t h _ _ => exact (show k ≠ "from" by rcases h with h | h | h | h <;> rw [h] <;> decide)
  | sh h => exact (show ("short" : Str) ≠ "from" by decide)
  | nu h1 h2 => exact (show ("number" : Str) ≠ "from" by decide)
  | @ba k h => exact (show k ≠ "from" by rcases h with h | h <;> rw [h] <;> decide)
/-! ### the law's tuples -/
def cT (p : Pt) (x y : V) (n : Bool) : List V := [.str p.1, p.2, x, y, .bl n]
def CkAt (H : Hp) (a : Addr) : Tst → Prop
  | .pl p n => H a = some (.tup (cT p .non .non n))
  | .rg p q n => ∃ b c, H a = some (.tup (cT ("from", .non) (.ref b) (.ref c) n)) ∧ H b = some (.tup (cT p .non .non false)) ∧ H c = some (.tup (cT q .non .non false))
theorem CkAt.tk {H H' : Hp} {a : Addr} : ∀ {t : Tst}, CkAt H a t → Tk H H' → CkAt H' a t
  | .pl _ _, h, s => s _ _ h
  | .rg _ _ _, ⟨b, c, e, h1, h2⟩, s => ⟨b, c, s _ _ e, s _ _ h1, s _ _ h2⟩
theorem CkAt.sm {H H' : Hp} {a : Addr} {t : Tst} (h : CkAt H a t) (s : Same H H') : CkAt H' a t := h.tk (Ks.of s).tk
/-! ### == of tests, as of the tuples -/
def vD : V → PyData
  | .int i => .int i
  | .str x => .str x
  | .bl b => .bool b
  | _ => .none
def cD (p : Pt) (x y : PyData) (n : Bool) : PyData := .tuple [.str p.1, vD p.2, x, y, .bool n]
def tD : Tst → PyData
  | .pl p n => cD p .none .none n
  | .rg p q n => cD ("from", .non) (cD p .none .none false) (cD q .none .none false) n
def eqT (t u : Tst) : Bool := PyData.eqv (tD t) (tD u)
def EqR (C : Addr) (a b : Addr) (r : Bool) (H : Hp) : Prop := ∃ t u, TsAt C H a t ∧ TsAt C H b u ∧ OkT t ∧ OkT u ∧ r = eqT t u
def EqP (C : Addr) (a b : Addr) (r : Bool) (H : Hp) : Prop := ∃ p q n m, PlAt C H a p n ∧ PlAt C H b q m ∧ OkP p ∧ OkP q ∧ r = eqT (.pl p n) (.pl q m)
/-! ### truths -/
def plT (p : Pt) (ls : List Str) (i : Nat) : Bool :=
  if p.1 = "begins" then (match p.2 with | .str y => Txt.startswith (ls.getD i "") y | _ => false)
  else if p.1 = "ends" then (match p.2 with | .str y => Txt.endswith (ls.getD i "") y | _ => false)
  else if p.1 = "has" then (match p.2 with | .str y => !(Builtin.Str.occurrences (ls.getD i "") y 0 (ls.getD i "").length 1).isEmpty | _ => false)
  else if p.1 = "is" then decide (V.str (ls.getD i "") = p.2)
  else if p.1 = "short" then (match p.2 with | .int n => decide (((ls.getD i "").length : Int) ≤ n) | _ => false)
  else if p.1 = "number" then decide (V.int ((i : Int) + 1) = p.2)
  else if p.1 = "last" then decide (V.int ((i : Int) + 1) = V.int (ls.length : Int))
  else true
def plTs (p : Pt) (ls : List Str) : List Bool := (List.range ls.length).map (plT p ls)
def rgT : Bool → List Bool → List Bool → List Bool
  | ins, b :: bs, e :: es => (ins || b) :: rgT (if ins then !e else b) bs es
  | _, _, _ => []
def tT (ls : List Str) : Tst → List Bool
  | .pl p n => (plTs p ls).map (· != n)
  | .rg p q n => (rgT false (plTs p ls) (plTs q ls)).map (· != n)
def LsAt (K : PySem.W.Frag) (H : Hp) (a : Addr) (ls : List Str) : Prop := (SqL K H a (ls.map V.str) ∨ SqT K H a (ls.map V.str)) ∧ ls.length ≤ 1000 ∧ ∀ l ∈ ls, l.length ≤ 1000
theorem LsAt.ks {K : PySem.W.Frag} {H H' : Hp} {a : Addr} {ls : List Str} (h : LsAt K H a ls) (k : Ks H H') : LsAt K H' a ls := ⟨h.1.elim (fun x => .inl (k.seq x)) fun x => .inr (k.seqT x), h.2⟩
/-! ### the program's promises -/
def sp_isText (K : PySem.W.Frag) : Sp := fun vs H Q _ => ∃ x, vs = [x] ∧ ((∃ l, x = .str (S l) ∧ l.length ≤ 100000 ∧ ∀ H', Same H H' → Ks H H' → Q (.bl (l.all isS)) H') ∨ (NotStr K H x ∧ Q (.bl false) H))
def sp_isPatch (K : PySem.W.Frag) : Sp := fun vs H Q _ => ∃ x, vs = [x] ∧ ((∃ l, x = .str (S l) ∧ l.length ≤ 100000 ∧ ∀ H', Same H H' → Q (.bl (l.all isS && decide (l.length ≤ 6))) H') ∨ (NotStr K H x ∧ Q (.bl false) H))
def lw (l : List Nat) : Bool := (l.all isS && decide (l.length ≤ 6)) && !decide (10 ∈ l)
def sp_isLineWord (K : PySem.W.Frag) : Sp := fun vs H Q _ => ∃ x, vs = [x] ∧ ((∃ l, x = .str (S l) ∧ l.length ≤ 100000 ∧ ∀ H', Same H H' → Q (.bl (lw l)) H') ∨ (NotStr K H x ∧ Q (.bl false) H))
/-- what isinstance says of a value and int, bool -/
def Whole (K : PySem.W.Frag) (H : Hp) (x : V) (r : Bool) : Prop := ∃ (t : Value) (b1 b2 : Bool), TyX K H x t ∧ PySem.W.kitOne K t (.type "int") = some b1 ∧ PySem.W.kitOne K t (.type "bool") = some b2 ∧ r = (b1 && !b2)
def sp_isWhole (K : PySem.W.Frag) : Sp := fun vs H Q _ => ∃ x r, vs = [x] ∧ Whole K H x r ∧ Q (.bl r) H
def sp_isWithin (K : PySem.W.Frag) : Sp := fun vs H Q _ => ∃ (x : V) (a : Addr) (lo hi : Int), vs = [x, .ref a] ∧ SqT K H a [.int lo, .int hi] ∧ ((Whole K H x false ∧ Q (.bl false) H) ∨ ∃ i : Int, x = .int i ∧ Q (.bl (decide (lo ≤ i) && decide (i ≤ hi))) H)
def sp_LineTest_init (C : Addr) : Sp := fun vs H Q _ => ∃ (a dx pa : Addr) (k : Str) (g x y : V) (n : Bool), vs = [.ref a, .str k, g, .ref pa, .bl n] ∧ H a = some (.ins C dx []) ∧ H pa = some (.tup [x, y]) ∧ Q .non (upd H a (.ins C dx (tF (k, g) x y n)))
def sp_LineTest_eq (C : Addr) : Sp := spEqI (EqR C)
def sp_LineTest_eqP (C : Addr) : Sp := spEqI (EqP C)
def trPost (bs : List Bool) (H : Hp) (Q : VK) : Prop := ∀ (H' : Hp) (tp : Addr), Same H H' → H' tp = some (.tup (bs.map V.bl)) → Q (.ref tp) H'
def sp_LineTest_truths (K : PySem.W.Frag) (C : Addr) : Sp := fun vs H Q _ => ∃ (a la : Addr) (t : Tst) (ls : List Str), vs = [.ref a, .ref la] ∧ TsAt C H a t ∧ OkT t ∧ LsAt K H la ls ∧ trPost (tT ls t) H Q
def sp_LineTest_truthsP (K : PySem.W.Frag) (C : Addr) : Sp := fun vs H Q _ => ∃ (a la : Addr) (p : Pt) (n : Bool) (ls : List Str), vs = [.ref a, .ref la] ∧ PlAt C H a p n ∧ OkP p ∧ LsAt K H la ls ∧ trPost (tT ls (.pl p n)) H Q
def sp_plainTruth (K : PySem.W.Frag) (C : Addr) : Sp := fun vs H Q _ => ∃ (a la : Addr) (p : Pt) (n : Bool) (ls : List Str) (i : Nat), vs = [.ref a, .ref la, .int (i : Int)] ∧ PlAt C H a p n ∧ OkP p ∧ LsAt K H la ls ∧ i < ls.length ∧ Q (.bl (plT p ls i)) H
def sp_rangeTruths (K : PySem.W.Frag) : Sp := fun vs H Q _ => ∃ (x y : Addr) (bs es : List Bool), vs = [.ref x, .ref y] ∧ H x = some (.tup (bs.map V.bl)) ∧ H y = some (.tup (es.map V.bl)) ∧ bs.length = es.length ∧ bs.length ≤ 1000 ∧ ∀ (H' : Hp) (l : Addr), Same H H' → H' l = some (.lst ((rgT false bs es).map V.bl)) → Q (.ref l) H'
/-- the errors of making -/
inductive Er
  | word (w : Str)
  | num (w : Str) (v : V)
def ErAt (CB CN : Addr) (H : Hp) (e : Er) (E : XK) : Prop := ∀ (d : Addr) (H' : Hp), Same H H' → (match e with
  | .word w => H' d = some (.xd [("what", .str w)])
  | .num w v => H' d = some (.xd [("number", v), ("what", .str w)])) → E (match e with | .word _ => .ref CB | .num _ _ => .ref CN) (some d) H'
def isW (k : Str) : Prop := k = "begins" ∨ k = "ends" ∨ k = "has" ∨ k = "is"
/-- what plain_test says of these arguments: well, or how it refuses -/
inductive PtR (K : PySem.W.Frag) (H : Hp) : V → V → Option Er → Prop
  | ok {p : Pt} (h : OkP p) : PtR K H (.str p.1) p.2 none
  | noText {v g : V} (h : NotStr K H v) : PtR K H v g (some (.word "test"))
  | noTest {x : Str} {g : V} (h : inV (.str x) [.str "begins", .str "ends", .str "has", .str "is", .str "short", .str "number", .str "all", .str "last"] = false) : PtR K H (.str x) g (some (.word "test"))
  | noWord {k : Str} {g : V} (h : isW k) (h2 : NotStr K H g ∨ ∃ l, g = .str (S l) ∧ l.length ≤ 100000 ∧ lw l = false) : PtR K H (.str k) g (some (.word "argument"))
  | noNum {k : Str} {g : V} {lo hi : Int} (h : (k = "short" ∧ lo = 0 ∧ hi = 40) ∨ (k = "number" ∧ lo = 1 ∧ hi = 6)) (h2 : Whole K H g false ∨ ∃ i : Int, g = .int i ∧ (i < lo ∨ hi < i)) : PtR K H (.str k) g (some (.num k g))
  | noBare {k : Str} {g : V} (h : k = "all" ∨ k = "last") (h2 : g ≠ .non) : PtR K H (.str k) g (some (.word "argument"))
def sp_plainTest (K : PySem.W.Frag) (CL CB CN : Addr) : Sp := fun vs H Q E => ∃ x g o, vs = [x, g] ∧ PtR K H x g o ∧ (o = none → ∀ (H' : Hp) (a : Addr) (k : Str), x = .str k → Same H H' → PlAt CL H' a (k, g) false → Q (.ref a) H') ∧ ∀ e, o = some e → ErAt CB CN H e E
/-- no plain test at all -/
def NoPl (K : PySem.W.Frag) (CL : Addr) (H : Hp) (x : V) : Prop := (∃ t, TyX K H x t ∧ PySem.W.kitOne K t (.ref CL) = some false) ∨ ∃ a dx p u v n, x = .ref a ∧ H a = some (.ins CL dx (tF p u v n)) ∧ (p.1 = "from" ∨ n = true)
def sp_isPlain (K : PySem.W.Frag) (CL : Addr) : Sp := fun vs H Q _ => ∃ x, vs = [x] ∧ ((NoPl K CL H x ∧ Q (.bl false) H) ∨ ∃ a dx p u v, x = .ref a ∧ H a = some (.ins CL dx (tF p u v false)) ∧ p.1 ≠ "from" ∧ Q (.bl true) H)
def sp_rangeTest (K : PySem.W.Frag) (CL CB CN : Addr) : Sp := fun vs H Q E => ∃ x y, vs = [x, y] ∧
  ((NoPl K CL H x ∧ ErAt CB CN H (.word "first") E) ∨ ∃ a dx p u v, x = .ref a ∧ H a = some (.ins CL dx (tF p u v false)) ∧ p.1 ≠ "from" ∧
    ((NoPl K CL H y ∧ ErAt CB CN H (.word "second") E) ∨ ∃ b dx' p' u' v', y = .ref b ∧ H b = some (.ins CL dx' (tF p' u' v' false)) ∧ p'.1 ≠ "from" ∧
      ∀ (H' : Hp) (c dz : Addr), Same H H' → H' c = some (.ins CL dz (tF ("from", .non) (.ref a) (.ref b) false)) → Q (.ref c) H'))
def sp_otherTest (K : PySem.W.Frag) (CL CB CN : Addr) : Sp := fun vs H Q E => ∃ x, vs = [x] ∧
  ((((∃ t, TyX K H x t ∧ PySem.W.kitOne K t (.ref CL) = some false) ∨ ∃ a dx p u v, x = .ref a ∧ H a = some (.ins CL dx (tF p u v true))) ∧ ErAt CB CN H (.word "test") E) ∨
    ∃ a dx p u v, x = .ref a ∧ H a = some (.ins CL dx (tF p u v false)) ∧ ∀ (H' : Hp) (c dz : Addr), Same H H' → H' c = some (.ins CL dz (tF p u v true)) → Q (.ref c) H')
/-- the class of tests: its own facts -/
structure Ca (K : PySem.W.Frag) (CL : Addr) : Prop where
  i : C8.InsC K CL
  a1 : NoAttr K CL "word"
  a2 : NoAttr K CL "argument"
  a3 : NoAttr K CL "first"
  a4 : NoAttr K CL "second"
  a5 : NoAttr K CL "negated"
structure Co (P : Program) (w : World) (K : PySem.W.Frag) (mg : Str → Option Value) (base : Heap) (CL : Addr) : Prop where
  g_LineTest : mg "LineTest" = some (.ref CL)
  m_LineTest : C8.Mak P w K mg base 1 "LineTest" CL (sp_LineTest_init CL) []
  i : C8.InsC K CL
  a1 : NoAttr K CL "word"
  a2 : NoAttr K CL "argument"
  a3 : NoAttr K CL "first"
  a4 : NoAttr K CL "second"
  a5 : NoAttr K CL "negated"
structure Eqc (P : Program) (w : World) (K : PySem.W.Frag) (mg : Str → Option Value) (base : Heap) (k : Nat) (C : Addr) (R : Addr → Addr → Bool → Hp → Prop) : Prop where
  ex : ∃ (f : Addr) (fd : FuncData) (ps : List Str), OwnC K C f ∧ FnOk P w K mg base C8.CX0 k f fd ps (spEqI R) ∧ Binds K fd ps []
section
variable {X : Cx} {C : Addr} {R : Addr → Addr → Bool → Hp → Prop} {k j : Nat}
theorem op_eqC (c : Eqc X.prog X.w X.K X.mg X.base k C R) (hr : Room j X.A) (hj : k ≤ j) : OpR X (compareOp .Eq) (rEqI C false R) := by
  obtain ⟨f, fd, ps, O, F, b⟩ := c.ex
  exact op_eqI O F b hr hj
theorem op_eqI2 (c : Eqc X.prog X.w X.K X.mg X.base k C R) (hr : Room j X.A) (hj : k ≤ j) {r : R2} (hu : OpR X (compareOp .Eq) r) : OpR X (compareOp .Eq) (fun x y H Q => r x y H Q ∨ rEqI C false R x y H Q) := op_alt hu (op_eqC c hr hj)
theorem op_neC (c : Eqc X.prog X.w X.K X.mg X.base k C R) (hr : Room j X.A) (hj : k + 1 ≤ j) : OpR X (compareOp .NotEq) (rEqI C true R) := by
  obtain ⟨f, fd, ps, O, F, b⟩ := c.ex
  exact op_neI O F b hr hj
end

end
end Vf

set_option maxRecDepth 100000
set_option maxHeartbeats 4000000
namespace Vf
open PySem PySem.Spec PyProof.Rows L2 SX
section
variable {P : Program} {w : World} {K : PySem.W.Frag} {mg : Str → Option Value} {base : Heap}
theorem beqD {α : Type} [BEq α] [LawfulBEq α] [DecidableEq α] (a b : α) : (a == b) = decide (a = b) := by
  by_cases e : a = b
  · subst e; rw [decide_eq_true rfl]; exact beq_self_eq_true _
  · rw [decide_eq_false e]; exact beq_eq_false_iff_ne.mpr e
theorem eqT_pl (p q : Pt) (n m : Bool) : eqT (.pl p n) (.pl q m) = (decide (p.1 = q.1) && (PyData.eqv (vD p.2) (vD q.2) && decide (n = m))) := by
  show PyData.eqv (cD p .none .none n) (cD q .none .none m) = _
  unfold cD
  simp [PyData.eqv, PyData.eqvAll, beqD]
theorem eqT_rg (p q p' q' : Pt) (n m : Bool) : eqT (.rg p q n) (.rg p' q' m) = (eqT (.pl p false) (.pl p' false) && (eqT (.pl q false) (.pl q' false) && decide (n = m))) := by
  show PyData.eqv (cD ("from", .non) (cD p .none .none false) (cD q .none .none false) n) (cD ("from", .non) (cD p' .none .none false) (cD q' .none .none false) m) = (PyData.eqv (cD p .none .none false) (cD p' .none .none false) && (PyData.eqv (cD q .none .none false) (cD q' .none .none false) && _))
  rw [show cD ("from", .non) (cD p .none .none false) (cD q .none .none false) n = .tuple [.str "from", .none, cD p .none .none false, cD q .none .none false, .bool n] from rfl, show cD ("from", .non) (cD p' .none .none false) (cD q' .none .none false) m = .tuple [.str "from", .none, cD p' .none .none false, cD q' .none .none false, .bool m] from rfl]
  simp [PyData.eqv, PyData.eqvAll, beqD]
theorem eqT_plrg {p q q' : Pt} {n m : Bool} (h : OkP p) : eqT (.pl p n) (.rg q q' m) = false := by
  show PyData.eqv (.tuple [.str p.1, vD p.2, .none, .none, .bool n]) (.tuple [.str "from", .none, cD q .none .none false, cD q' .none .none false, .bool m]) = false
  have : (p.1 == ("from" : Str)) = false := beq_eq_false_iff_ne.mpr h.nf
  simp [PyData.eqv, PyData.eqvAll, this]
theorem eqv_head (a b : PyData) (as bs : List PyData) : PyData.eqv (.tuple (a :: as)) (.tuple (b :: bs)) = (PyData.eqv a b && PyData.eqvAll as bs) := by rw [PyData.eqv, PyData.eqvAll]
theorem eqT_rgpl {p q q' : Pt} {n m : Bool} (h : OkP p) : eqT (.rg q q' m) (.pl p n) = false := by
  show PyData.eqv (.tuple [.str "from", .none, cD q .none .none false, cD q' .none .none false, .bool m]) (.tuple [.str p.1, vD p.2, .none, .none, .bool n]) = false
  rw [eqv_head, PyData.eqv, beq_eq_false_iff_ne.mpr fun z => h.nf z.symm, Bool.false_and]
theorem strOk_S {l : List Nat} (h : ∀ c ∈ l, c < 1000) : PyData.strOk (S l) = true := by
  unfold PyData.strOk
  show l.toArray.all _ = true
  rw [List.all_toArray]
  exact List.all_eq_true.mpr fun c hc => decide_eq_true (by have := h c hc; omega)
theorem sg_ok {l : List Nat} (h : ∀ c ∈ l, c ∈ signsL) : PyData.strOk (S l) = true := strOk_S fun c hc => (show ∀ c ∈ signsL, c < 1000 by decide) c (h c hc)
/-- a scalar's data -/
theorem sc_dp {K : PySem.W.Frag} {H : Hp} {p : Pt} (h : OkP p) : Dp K H p.2 (vD p.2) ∧ SeqAt.shaped (vD p.2) = true := by
  cases h with
  | @wd k t h h1 h2 => exact ⟨.str _, by
      have := sg_ok fun c hc => (h2 c hc).1
      simp [SeqAt.shaped, vD, PyData.canLay0, PyData.depth, this]⟩
  | sh h => exact ⟨.int _, by simp [SeqAt.shaped, vD, PyData.canLay0, PyData.depth]⟩
  | nu h1 h2 => exact ⟨.int _, by simp [SeqAt.shaped, vD, PyData.canLay0, PyData.depth]⟩
  | ba h => exact ⟨.non, by simp [SeqAt.shaped, vD, PyData.canLay0, PyData.depth]⟩

end
end Vf

set_option maxRecDepth 100000
set_option maxHeartbeats 4000000
namespace Vf
open PySem PySem.Spec PyProof.Rows L2 SX
section
variable {P : Program} {w : World} {K : PySem.W.Frag} {mg : Str → Option Value} {base : Heap}
theorem ify {c : Bool} {A B : Prop} (h : c = true) (x : A) : if c = true then A else B := by rw [if_pos h]; exact x
theorem ifn {c : Bool} {A B : Prop} (h : c = false) (x : B) : if c = true then A else B := by rw [if_neg (by rw [h]; exact Bool.false_ne_true)]; exact x
section
variable {ls : List Str} {i : Nat} {y : Str} {l : Str} (hl : ls.getD i "" = l)
include hl
theorem plT_begins : plT ("begins", .str y) ls i = Txt.startswith l y := by
  unfold plT; rw [if_pos rfl, hl]
theorem plT_ends : plT ("ends", .str y) ls i = Txt.endswith l y := by
  unfold plT; rw [if_neg (by dsimp only; decide), if_pos rfl, hl]
theorem plT_has : plT ("has", .str y) ls i = !(Builtin.Str.occurrences l y 0 l.length 1).isEmpty := by
  unfold plT; rw [if_neg (by dsimp only; decide), if_neg (by dsimp only; decide), if_pos rfl, hl]
theorem plT_is {v : V} : plT ("is", v) ls i = decide (V.str l = v) := by
  unfold plT; rw [if_neg (by dsimp only; decide), if_neg (by dsimp only; decide), if_neg (by dsimp only; decide), if_pos rfl, hl]
theorem plT_short {n : Int} : plT ("short", .int n) ls i = decide ((l.length : Int) ≤ n) := by
  unfold plT; rw [if_neg (by dsimp only; decide), if_neg (by dsimp only; decide), if_neg (by dsimp only; decide), if_neg (by dsimp only; decide), if_pos rfl, hl]
end
theorem plT_number {ls : List Str} {i : Nat} {v : V} : plT ("number", v) ls i = decide (V.int ((i : Int) + 1) = v) := by
  unfold plT; rw [if_neg (by dsimp only; decide), if_neg (by dsimp only; decide), if_neg (by dsimp only; decide), if_neg (by dsimp only; decide), if_neg (by dsimp only; decide), if_pos rfl]
theorem plT_last {ls : List Str} {i : Nat} {v : V} : plT ("last", v) ls i = decide (V.int ((i : Int) + 1) = V.int (ls.length : Int)) := by
  unfold plT; rw [if_neg (by dsimp only; decide), if_neg (by dsimp only; decide), if_neg (by dsimp only; decide), if_neg (by dsimp only; decide), if_neg (by dsimp only; decide), if_neg (by dsimp only; decide), if_pos rfl]
theorem plT_all {ls : List Str} {i : Nat} {v : V} : plT ("all", v) ls i = true := by
  unfold plT; rw [if_neg (by dsimp only; decide), if_neg (by dsimp only; decide), if_neg (by dsimp only; decide), if_neg (by dsimp only; decide), if_neg (by dsimp only; decide), if_neg (by dsimp only; decide), if_neg (by dsimp only; decide)]
theorem ls_at {ls : List Str} {i : Nat} (hi : i < ls.length) : atI (ls.map V.str) (i : Int) = some (.str (ls[i])) ∧ ls.getD i "" = ls[i] := by
  refine ⟨atI_nat (by rw [List.getElem?_map, List.getElem?_eq_getElem hi]; rfl), ?_⟩
  rw [List.getD_eq_getElem?_getD, List.getElem?_eq_getElem hi]
  rfl

end
end Vf

set_option maxRecDepth 100000
set_option maxHeartbeats 4000000
namespace Vf
open PySem PySem.Spec PyProof.Rows L2 SX
section
variable {P : Program} {w : World} {K : PySem.W.Frag} {mg : Str → Option Value} {base : Heap}
theorem tyx_sm {K : PySem.W.Frag} {H H' : Hp} (s : Same H H') {x : V} {t : Value} (h : TyX K H x t) : TyX K H' x t := by
  cases h with
  | base b =>
    refine .base ?_
    cases b with
    | non => exact .non
    | bl x => exact .bl x
    | int i => exact .int i
    | str x => exact .str x
    | flt x => exact .flt x
    | lst e => exact .lst (s _ _ e)
    | frz e => exact .frz (s _ _ e)
    | tup e => exact .tup (s _ _ e)
    | dK e => exact .dK (s _ _ e)
    | dT e => exact .dT (s _ _ e)
    | ins e cl ha hn htk hm => exact .ins (s _ _ e) cl ha hn htk hm
  | byt b => exact .byt b
  | set e => exact .set (s _ _ e)
  | kList e c => exact .kList e c
  | kTuple e c => exact .kTuple e c
  | kDict e c => exact .kDict e c
  | fTuple e => exact .fTuple (s _ _ e)
  | fDict e => exact .fDict (s _ _ e)
theorem NotStr.sm {K : PySem.W.Frag} {H H' : Hp} {x : V} (h : NotStr K H x) (s : Same H H') : NotStr K H' x := let ⟨t, a, b⟩ := h; ⟨t, tyx_sm s a, b⟩
theorem Whole.sm {K : PySem.W.Frag} {H H' : Hp} {x : V} {r : Bool} (h : Whole K H x r) (s : Same H H') : Whole K H' x r := let ⟨t, b1, b2, a, b, c, d⟩ := h; ⟨t, b1, b2, tyx_sm s a, b, c, d⟩
abbrev l4 : List V := [.str "begins", .str "ends", .str "has", .str "is"]
abbrev l2 : List V := [.str "short", .str "number"]
abbrev lB : List V := [.str "all", .str "last"]
abbrev l8 : List V := [.str "begins", .str "ends", .str "has", .str "is", .str "short", .str "number", .str "all", .str "last"]
theorem cl_w {k : Str} (h : isW k) : inV (.str k) l8 = true ∧ inV (.str k) l4 = true ∧ inV (.str k) l2 = false ∧ inV (.str k) lB = false := by
  rcases h with h | h | h | h <;> subst h <;> decide
theorem cl_n {k : Str} (h : k = "short" ∨ k = "number") : inV (.str k) l8 = true ∧ inV (.str k) l4 = false ∧ inV (.str k) l2 = true ∧ inV (.str k) lB = false := by
  rcases h with h | h <;> subst h <;> decide
theorem cl_b {k : Str} (h : k = "all" ∨ k = "last") : inV (.str k) l8 = true ∧ inV (.str k) l4 = false ∧ inV (.str k) l2 = false ∧ inV (.str k) lB = true := by
  rcases h with h | h <;> subst h <;> decide
theorem okp_cl {p : Pt} (h : OkP p) : (isW p.1 ∧ ∃ l, p.2 = .str (S l) ∧ l.length ≤ 100000 ∧ lw l = true) ∨ ((∃ lo hi : Int, ((p.1 = "short" ∧ lo = 0 ∧ hi = 40) ∨ (p.1 = "number" ∧ lo = 1 ∧ hi = 6)) ∧ ∃ i : Int, p.2 = .int i ∧ lo ≤ i ∧ i ≤ hi)) ∨ ((p.1 = "all" ∨ p.1 = "last") ∧ p.2 = .non) := by
  cases h with
  | @wd k t h h1 h2 =>
    refine .inl ⟨h, t, rfl, by omega, ?_⟩
    unfold lw
    have a : t.all isS = true := List.all_eq_true.mpr fun c hc => decide_eq_true (h2 c hc).1
    have b : decide (10 ∈ t) = false := decide_eq_false fun z => (h2 10 z).2 rfl
    rw [a, b, decide_eq_true h1]
    rfl
  | @sh n h => exact .inr (.inl ⟨0, 40, .inl ⟨rfl, rfl, rfl⟩, n, rfl, by omega, by omega⟩)
  | @nu n h1 h2 => exact .inr (.inl ⟨1, 6, .inr ⟨rfl, rfl, rfl⟩, n, rfl, by omega, by omega⟩)
  | ba h => exact .inr (.inr ⟨h, rfl⟩)
/-- the first question: is it a test's word -/
theorem pt_one {K : PySem.W.Frag} {H : Hp} {x g : V} {o : Option Er} (h : PtR K H x g o) : (NotStr K H x ∧ o = some (.word "test")) ∨ (∃ k, x = .str k ∧ inV (.str k) l8 = false ∧ o = some (.word "test")) ∨ ∃ k, x = .str k ∧ inV (.str k) l8 = true := by
  cases h with
  | @ok p h => exact .inr (.inr ⟨_, rfl, (okp_cl h).elim (fun z => (cl_w z.1).1) fun z => z.elim (fun ⟨_, _, z, _⟩ => (cl_n (z.elim (fun z => .inl z.1) fun z => .inr z.1)).1) fun z => (cl_b z.1).1⟩)
  | noText h => exact .inl ⟨h, rfl⟩
  | noTest h => exact .inr (.inl ⟨_, rfl, h, rfl⟩)
  | noWord h h2 => exact .inr (.inr ⟨_, rfl, (cl_w h).1⟩)
  | noNum h h2 => exact .inr (.inr ⟨_, rfl, (cl_n (h.elim (fun z => .inl z.1) fun z => .inr z.1)).1⟩)
  | noBare h h2 => exact .inr (.inr ⟨_, rfl, (cl_b h).1⟩)
/-- the others, of a test's word -/
theorem pt_two {K : PySem.W.Frag} {H : Hp} {k : Str} {g : V} {o : Option Er} (h : PtR K H (.str k) g o) (h8 : inV (.str k) l8 = true) :
    (inV (.str k) l4 = true ∧ inV (.str k) l2 = false ∧ inV (.str k) lB = false ∧ (((NotStr K H g ∨ ∃ l, g = .str (S l) ∧ l.length ≤ 100000 ∧ lw l = false) ∧ o = some (.word "argument")) ∨ ((∃ l, g = .str (S l) ∧ l.length ≤ 100000 ∧ lw l = true) ∧ o = none))) ∨
    (inV (.str k) l4 = false ∧ inV (.str k) l2 = true ∧ inV (.str k) lB = false ∧ ∃ lo hi : Int, ((k = "short" ∧ lo = 0 ∧ hi = 40) ∨ (k = "number" ∧ lo = 1 ∧ hi = 6)) ∧ (((Whole K H g false ∨ ∃ i : Int, g = .int i ∧ (i < lo ∨ hi < i)) ∧ o = some (.num k g)) ∨ ((∃ i : Int, g = .int i ∧ lo ≤ i ∧ i ≤ hi) ∧ o = none))) ∨
    (inV (.str k) l4 = false ∧ inV (.str k) l2 = false ∧ inV (.str k) lB = true ∧ ((g ≠ .non ∧ o = some (.word "argument")) ∨ (g = .non ∧ o = none))) := by
  have noP : ∀ {a b : Str}, V.str a = V.str b → a = b := fun z => V.str.inj z
  generalize hx : V.str k = x at h
  cases h with
  | @ok p h =>
    obtain rfl : k = p.1 := noP hx
    rcases okp_cl h with ⟨z, y⟩ | ⟨lo, hi, z, y⟩ | ⟨z, y⟩
    · obtain ⟨_, c1, c2, c3⟩ := cl_w z
      exact .inl ⟨c1, c2, c3, .inr ⟨y, rfl⟩⟩
    · obtain ⟨_, c1, c2, c3⟩ := cl_n (z.elim (fun z => .inl z.1) fun z => .inr z.1)
      exact .inr (.inl ⟨c1, c2, c3, lo, hi, z, .inr ⟨y, rfl⟩⟩)
    · obtain ⟨_, c1, c2, c3⟩ := cl_b z
      exact .inr (.inr ⟨c1, c2, c3, .inr ⟨y, rfl⟩⟩)
  | noText h =>
    subst hx
    obtain ⟨t, ty, e⟩ := h
    exfalso
    cases ty with
    | base b =>
      cases b with
      | str x =>
        have : PySem.W.kitOne K (.type "str") (.type "str") = some true := kit_ty (by decide +kernel)
        rw [this] at e
        cases e
  | noTest h =>
    obtain rfl := noP hx
    rw [h] at h8
    cases h8
  | noWord h h2 =>
    obtain rfl := noP hx
    obtain ⟨_, c1, c2, c3⟩ := cl_w h
    exact .inl ⟨c1, c2, c3, .inl ⟨h2, rfl⟩⟩
  | noNum h h2 =>
    obtain rfl := noP hx
    obtain ⟨_, c1, c2, c3⟩ := cl_n (h.elim (fun z => .inl z.1) fun z => .inr z.1)
    exact .inr (.inl ⟨c1, c2, c3, _, _, h, .inl ⟨h2, rfl⟩⟩)
  | noBare h h2 =>
    obtain rfl := noP hx
    obtain ⟨_, c1, c2, c3⟩ := cl_b h
    exact .inr (.inr ⟨c1, c2, c3, .inl ⟨h2, rfl⟩⟩)
/-- a new instance beside what stands -/
theorem made_same {H0 H : Hp} {a dx C : Addr} {fs fs' : List (Str × V)} (s : Same H0 H) (h1 : H a = none) (h2 : H dx = none) : Same H0 (upd (upd (upd H dx (.own a)) a (.ins C dx fs)) a (.ins C dx fs')) := fun b o e => by
  have e' := s b o e
  rw [upd_ne (ne_of_none e' h1), upd_ne (ne_of_none e' h1), upd_ne (ne_of_none e' h2)]
  exact e'

end
end Vf

set_option maxRecDepth 100000
set_option maxHeartbeats 4000000
namespace Vf
open PySem PySem.Spec PyProof.Rows L2 SX
section
variable {P : Program} {w : World} {K : PySem.W.Frag} {mg : Str → Option Value} {base : Heap}
def sgn (l : List Nat) : Prop := ∀ c ∈ l, c ∈ signsL ∧ c ≠ 10
theorem sgn_lt {l : List Nat} (h : sgn l) : ∀ z ∈ l, z < 1000 := fun z hz => (show ∀ c ∈ signsL, c < 1000 by decide) z (h z hz).1
def sp_lawWord : Sp := fun vs H Q _ => ∃ (p c : Addr) (m n : Nat) (sg : List Nat), vs = [.ref p, .str (S sg), .int (n : Int)] ∧ PenAt H p c m ∧ m < 800000 ∧ 1 ≤ n ∧ n ≤ 1000 ∧ 1 ≤ sg.length ∧ sg.length ≤ 1000 ∧
  ∀ (H' : Hp) (t : List Nat), Ks H H' → PenAt H' p c (m + 1 + n) → 1 ≤ t.length → t.length ≤ n → (∀ z ∈ t, z ∈ sg) → Q (.str (S t)) H'
def sp_lawText : Sp := fun vs H Q _ => ∃ (p c : Addr) (m n : Nat) (sg : List Nat), vs = [.ref p, .str (S sg), .int (n : Int)] ∧ PenAt H p c m ∧ m < 800000 ∧ n ≤ 1000 ∧ sg.length ≤ 1000 ∧ (∀ z ∈ sg, z < 1000) ∧
  ∀ (H' : Hp) (t : List Nat), Ks H H' → PenAt H' p c (m + 1 + n) → t.length ≤ n → (∀ z ∈ t, z < 1000) → Q (.str (S t)) H'
theorem hu65 {k : Nat} {A : Around} (r : Room k A) : A.units + 65 < cLine := by have := r.un; omega
/-! ### the law's promises -/
def sp_signs : Sp := fun vs H Q _ => ∃ (p c : Addr) (m : Nat), vs = [.ref p] ∧ PenAt H p c m ∧ m < 900000 ∧ ∀ (H' : Hp) (l : List Nat), Ks H H' → PenAt H' p c (m + 1) → 1 ≤ l.length → l.length ≤ 3 → sgn l → Q (.str (S l)) H'
def sp_patch : Sp := fun vs H Q _ => ∃ (p c : Addr) (m n : Nat) (sg : List Nat), vs = [.ref p, .str (S sg), .int (n : Int)] ∧ PenAt H p c m ∧ m < 700000 ∧ 1 ≤ n ∧ n ≤ 6 ∧ 1 ≤ sg.length ∧ sg.length ≤ 1000 ∧
  ∀ (H' : Hp) (t : List Nat), Ks H H' → PenAt H' p c (m + 8) → t.length ≤ n → (∀ z ∈ t, z ∈ sg) → Q (.str (S t)) H'
def sp_lawPlainTest : Sp := fun vs H Q _ => ∃ (p c : Addr) (m : Nat) (sg : List Nat), vs = [.ref p, .str (S sg)] ∧ PenAt H p c m ∧ m < 600000 ∧ 1 ≤ sg.length ∧ sg.length ≤ 1000 ∧ sgn sg ∧
  ∀ (H' : Hp) (a : Addr) (z : Pt), Ks H H' → PenAt H' p c (m + 10) → OkP z → H' a = some (.tup (cT z .non .non false)) → Q (.ref a) H'
def sp_lawTest : Sp := fun vs H Q _ => ∃ (p c : Addr) (m : Nat) (sg : List Nat), vs = [.ref p, .str (S sg)] ∧ PenAt H p c m ∧ m < 500000 ∧ 1 ≤ sg.length ∧ sg.length ≤ 1000 ∧ sgn sg ∧
  ∀ (H' : Hp) (a : Addr) (t : Tst), Ks H H' → PenAt H' p c (m + 30) → OkT t → CkAt H' a t → Q (.ref a) H'
def sp_longWord : Sp := fun vs H Q _ => ∃ (p c : Addr) (m : Nat), vs = [.ref p] ∧ PenAt H p c m ∧ m < 900000 ∧ ∀ (H' : Hp) (l : List Nat), Ks H H' → PenAt H' p c (m + 1) → 1 ≤ l.length → l.length ≤ 6 → sgn l → Q (.str (S l)) H'
def sp_longText : Sp := fun vs H Q _ => ∃ (p c : Addr) (m : Nat), vs = [.ref p] ∧ PenAt H p c m ∧ m < 500000 ∧ ∀ (H' : Hp) (l : List Nat), Ks H H' → PenAt H' p c (m + 60) → l.length ≤ 100 → (∀ z ∈ l, z < 1000) → Q (.str (S l)) H'
def sp_longTest : Sp := fun vs H Q _ => ∃ (p c : Addr) (m : Nat), vs = [.ref p] ∧ PenAt H p c m ∧ m < 500000 ∧ ∀ (H' : Hp) (a : Addr) (t : Tst), Ks H H' → PenAt H' p c (m + 30) → OkT t → CkAt H' a t → Q (.ref a) H'
def sp_testMade (CL : Addr) : Sp := fun vs H Q _ => ∃ (a : Addr) (t : Tst), vs = [.ref a] ∧ CkAt H a t ∧ OkT t ∧ ∀ (H' : Hp) (o : Addr), Same H H' → TsAt CL H' o t → Q (.ref o) H'
def sp_testMadeP (CL : Addr) : Sp := fun vs H Q _ => ∃ (a : Addr) (p : Pt) (n : Bool), vs = [.ref a] ∧ CkAt H a (.pl p n) ∧ OkP p ∧ ∀ (H' : Hp) (o : Addr), Same H H' → TsAt CL H' o (.pl p n) → Q (.ref o) H'
def sp_lawPlainTruth (K : PySem.W.Frag) : Sp := fun vs H Q _ => ∃ (a la : Addr) (p : Pt) (x y : V) (n : Bool) (ls : List Str) (i : Nat), vs = [.ref a, .ref la, .int (i : Int)] ∧ H a = some (.tup (cT p x y n)) ∧ OkP p ∧ SqL K H la (ls.map V.str) ∧ ls.length ≤ 1000 ∧ (∀ l ∈ ls, l.length ≤ 1000) ∧ i < ls.length ∧ ∀ H', Same H H' → Q (.bl (plT p ls i)) H'
def sp_lawTruths (K : PySem.W.Frag) : Sp := fun vs H Q _ => ∃ (a la : Addr) (t : Tst) (ls : List Str), vs = [.ref a, .ref la] ∧ CkAt H a t ∧ OkT t ∧ SqL K H la (ls.map V.str) ∧ ls.length ≤ 1000 ∧ (∀ l ∈ ls, l.length ≤ 1000) ∧ ∀ (H' : Hp) (L : Addr), Same H H' → H' L = some (.lst ((tT ls t).map V.bl)) → Q (.ref L) H'
def sp_isMadeRight (CL : Addr) : Sp := fun vs H Q _ => ∃ (a : Addr) (t : Tst), vs = [.ref a] ∧ CkAt H a t ∧ OkT t ∧ ∀ H', Same H H' → Q (.bl true) H'
def sp_byHand : Sp := fun vs H Q _ => vs = [] ∧ ∀ H', Same H H' → Q (.bl true) H'

end
end Vf

set_option maxRecDepth 100000
set_option maxHeartbeats 4000000
namespace Vf
open PySem PySem.Spec PyProof.Rows L2 SX
section
variable {P : Program} {w : World} {K : PySem.W.Frag} {mg : Str → Option Value} {base : Heap}
theorem ok_isText {f : Addr} {fd : FuncData} (F : C8.Def K mg "is_text" s_isText f fd) (b : Binds K fd ["value"] []) (T : Tx K w mg)  : C8.Cal P w K mg base 1 "is_text" (sp_isText K) [] := by
  refine C8.cal0 F b .nil sc_isText (fun vs H Q E h => ?_) (fun cdv A outer s H vs Q E hr h => ?_)
  · obtain ⟨x, rfl, _⟩ := h; rfl
  have hu := hu_of hr
  refine ⟨_, (pss_one (ps_ret (pe_and (pe_callB call_isi (by rfl) T.z_isinstance (by decide +kernel) (pa_cons (pv 0) (pa_cons (pe_bltn (v := .ty "str") (by rfl) T.z_str (by decide +kernel) rfl) pa_nil))) (pe_one (pe_callB (cr_all rfl) (by rfl) T.z_all (by decide +kernel) (pa_cons (pe_lc (own := [("sign", 1)]) (g := (gName 1)) (tt := tYes) rfl sc_isText.nd (pi_str (pv 0)) (blkOk_by (N := N_isText) (sc := C8.fnScope s_isText) (by decide +kernel)) (fun _ _ _ _ _ => pg_name (i := 1) sc_isText.nd rfl (Or.inl rfl)) (fun _ _ _ _ _ => pts_nil) (fun _ _ _ _ _ => (pe_cmpR op_in_sign (pv 1) (C8.pe_gc rfl T.g_SIGNS) rfl))) pa_nil)))))), ?_⟩

  obtain ⟨x, rfl, h⟩ := h
  rcases h with ⟨l, rfl, hl, q⟩ | ⟨⟨t, ty, ek⟩, q⟩
  · refine ⟨_, rfl, _, _, _, _, true, rfl, .ty "str", .base (.str _), kit_ty (by decide +kernel), true, rfl, ?_⟩
    rw [if_pos rfl]
    refine ⟨_, rfl, _, rfl, fun D hD => ?_⟩
    refine lc_it (walk_str (z := S l)) (fun i H' => H' = upd H D (.lst ((l.take i).map fun c => V.bl (isS c)))) rfl (fun _ _ _ _ => trivial) (fun i x H1 H2 hi e y => ?_) (fun H1 e => ?_)
    · obtain ⟨eH, c, hc, rfl⟩ := y
      subst eH
      have hc' : l[i]? = some c := by simpa using hc
      refine ⟨rfl, ?_⟩
      dsimp only [tYes]
      rw [if_pos rfl]
      refine ⟨_, rfl, c, S signsL, rfl, rfl, ?_⟩
      subst e
      refine ⟨_, upd_same, szL (by rw [List.length_map, List.length_take]; omega), ?_⟩
      rw [upd_upd, List.take_add_one, hc']
      simp [isS]
    · subst e
      refine ⟨D, l.map isS, rfl, SqL.of (by rw [upd_same]; simp [List.take_length]), ?_⟩
      rw [List.all_map]
      exact q _ (same_new (fun _ _ z => z) hD _) (Ks.new1 hD _)
  · refine ⟨_, rfl, _, _, _, _, false, rfl, .ty "str", ty, ek, false, rfl, ?_⟩
    rw [if_neg Bool.false_ne_true]
    exact q

end
end Vf

set_option maxRecDepth 100000
set_option maxHeartbeats 4000000
namespace Vf
open PySem PySem.Spec PyProof.Rows L2 SX
section
variable {P : Program} {w : World} {K : PySem.W.Frag} {mg : Str → Option Value} {base : Heap}
theorem ok_isPatch {f : Addr} {fd : FuncData} (F : C8.Def K mg "is_patch" s_isPatch f fd) (b : Binds K fd ["value"] []) (T : Tx K w mg) (C_isText : C8.Cal P w K mg base 1 "is_text" (sp_isText K) []) : C8.Cal P w K mg base 2 "is_patch" (sp_isPatch K) [] := by
  refine C8.cal0 F b .nil sc_isPatch (fun vs H Q E h => ?_) (fun cdv A outer s H vs Q E hr h => ?_)
  · obtain ⟨x, rfl, _⟩ := h; rfl
  have hu := hu_of hr
  refine ⟨_, (pss_one (ps_ret (pe_and (C8.pe_c C_isText hr (by decide) rfl (pa_cons (pv 0) pa_nil)) (pe_one (pe_cmpR op_le (pe_callB call_len (by rfl) T.z_len PySem.boot_len (pa_cons (pv 0) pa_nil)) (C8.pe_gc rfl T.g_LONGEST_WORD) (nomark _)))))), ?_⟩

  obtain ⟨x, rfl, h⟩ := h
  rcases h with ⟨l, rfl, hl, q⟩ | ⟨n, q⟩
  · refine ⟨_, rfl, _, rfl, .inl ⟨l, rfl, hl, fun H' k1 k2 => ⟨_, rfl, ?_⟩⟩⟩
    have q' := q H' k1
    by_cases e : l.all isS = true
    · rw [if_pos e]
      rw [e, Bool.true_and] at q'
      refine ⟨_, rfl, _, l.length, rfl, ⟨by rw [S_len]; exact szB (by omega), by rw [S_len]⟩, _, _, rfl, rfl, ?_⟩
      show Q (.bl (decide ((l.length : Int) ≤ 6))) H'
      rw [show decide ((l.length : Int) ≤ 6) = decide (l.length ≤ 6) from decide_eq_decide.mpr (by omega)]
      exact q'
    · rw [if_neg e]
      rw [Bool.eq_false_iff.mpr e, Bool.false_and] at q'
      exact q'
  · refine ⟨_, rfl, _, rfl, .inr ⟨n, _, rfl, ?_⟩⟩
    rw [if_neg Bool.false_ne_true]
    exact q

end
end Vf

set_option maxRecDepth 100000
set_option maxHeartbeats 4000000
namespace Vf
open PySem PySem.Spec PyProof.Rows L2 SX
section
variable {P : Program} {w : World} {K : PySem.W.Frag} {mg : Str → Option Value} {base : Heap}
theorem ok_isWhole {f : Addr} {fd : FuncData} (F : C8.Def K mg "is_whole" s_isWhole f fd) (b : Binds K fd ["value"] []) (T : Tx K w mg)  : C8.Cal P w K mg base 1 "is_whole" (sp_isWhole K) [] := by
  refine C8.cal0 F b .nil sc_isWhole (fun vs H Q E h => ?_) (fun cdv A outer s H vs Q E hr h => ?_)
  · obtain ⟨x, r, rfl, _⟩ := h; rfl
  have hu := hu_of hr
  refine ⟨_, (pss_one (ps_ret (pe_and (pe_callB call_isi (by rfl) T.z_isinstance (by decide +kernel) (pa_cons (pv 0) (pa_cons (pe_bltn (v := .ty "int") (by rfl) T.z_int (by decide +kernel) rfl) pa_nil))) (pe_one (pe_not (pe_callB call_isi (by rfl) T.z_isinstance (by decide +kernel) (pa_cons (pv 0) (pa_cons (pe_bltn (v := .ty "bool") (by rfl) T.z_bool (by decide +kernel) rfl) pa_nil)))))))), ?_⟩

  obtain ⟨x, r, rfl, ⟨t, b1, b2, ty, e1, e2, rfl⟩, q⟩ := h
  refine ⟨_, rfl, _, _, _, _, b1, rfl, .ty "int", ty, e1, b1, rfl, ?_⟩
  cases b1 with
  | true =>
    rw [if_pos rfl]
    exact ⟨_, rfl, _, _, _, _, b2, rfl, .ty "bool", ty, e2, b2, rfl, q⟩
  | false =>
    rw [if_neg Bool.false_ne_true]
    exact q

end
end Vf

set_option maxRecDepth 100000
set_option maxHeartbeats 4000000
namespace Vf
open PySem PySem.Spec PyProof.Rows L2 SX
section
variable {P : Program} {w : World} {K : PySem.W.Frag} {mg : Str → Option Value} {base : Heap}
theorem ok_isLineWord {f : Addr} {fd : FuncData} (F : C8.Def K mg "is_line_word" s_isLineWord f fd) (b : Binds K fd ["value"] []) (T : Tx K w mg) (C_isPatch : C8.Cal P w K mg base 2 "is_patch" (sp_isPatch K) []) : C8.Cal P w K mg base 3 "is_line_word" (sp_isLineWord K) [] := by
  refine C8.cal0 F b .nil sc_isLineWord (fun vs H Q E h => ?_) (fun cdv A outer s H vs Q E hr h => ?_)
  · obtain ⟨x, rfl, _⟩ := h; rfl
  have hu := hu_of hr
  refine ⟨_, (pss_one (ps_ret (pe_and (C8.pe_c C_isPatch hr (by decide) rfl (pa_cons (pv 0) pa_nil)) (pe_one (pe_cmpR op_notIn_sign pe_str (pv 0) rfl))))), ?_⟩

  obtain ⟨x, rfl, h⟩ := h
  rcases h with ⟨l, rfl, hl, q⟩ | ⟨n, q⟩
  · refine ⟨_, rfl, _, rfl, .inl ⟨l, rfl, hl, fun H' k1 => ⟨_, rfl, ?_⟩⟩⟩
    have q' := q H' k1
    unfold lw at q'
    by_cases e : (l.all isS && decide (l.length ≤ 6)) = true
    · rw [if_pos e]
      rw [e, Bool.true_and] at q'
      refine ⟨_, rfl, 10, S l, rfl, rfl, ?_⟩
      simpa using q'
    · rw [if_neg e]
      rw [Bool.eq_false_iff.mpr e, Bool.false_and] at q'
      exact q'
  · refine ⟨_, rfl, _, rfl, .inr ⟨n, _, rfl, ?_⟩⟩
    rw [if_neg Bool.false_ne_true]
    exact q

end
end Vf

set_option maxRecDepth 100000
set_option maxHeartbeats 4000000
namespace Vf
open PySem PySem.Spec PyProof.Rows L2 SX
section
variable {P : Program} {w : World} {K : PySem.W.Frag} {mg : Str → Option Value} {base : Heap}
theorem whole_int {K : PySem.W.Frag} {H : Hp} (i : Int) : Whole K H (.int i) true := ⟨_, true, false, .base (.int i), kit_ty (by decide +kernel), kit_ty (by decide +kernel), rfl⟩
theorem ok_isWithin {f : Addr} {fd : FuncData} (F : C8.Def K mg "is_within" s_isWithin f fd) (b : Binds K fd ["value", "bounds"] []) (T : Tx K w mg) (C_isWhole : C8.Cal P w K mg base 1 "is_whole" (sp_isWhole K) []) : C8.Cal P w K mg base 2 "is_within" (sp_isWithin K) [] := by
  refine C8.cal0 F b .nil sc_isWithin (fun vs H Q E h => ?_) (fun cdv A outer s H vs Q E hr h => ?_)
  · obtain ⟨x, a, lo, hi, rfl, _⟩ := h; rfl
  have hu := hu_of hr
  refine ⟨_, (pss_one (ps_ret (pe_and (C8.pe_c C_isWhole hr (by decide) rfl (pa_cons (pv 0) pa_nil)) (pe_one (pe_chain op_le op_le (pe_ix ix_tup (pv 1) pe_int (fun _ _ => rfl)) (pv 0) (pe_ix ix_tup (pv 1) pe_int (fun _ _ => rfl))))))), ?_⟩

  obtain ⟨x, a, lo, hi, rfl, ha, h⟩ := h
  rcases h with ⟨hw, q⟩ | ⟨i, rfl, q⟩
  · refine ⟨_, rfl, x, false, rfl, hw, _, rfl, ?_⟩
    rw [if_neg Bool.false_ne_true]
    exact q
  · refine ⟨_, rfl, _, true, rfl, whole_int i, _, rfl, ?_⟩
    rw [if_pos rfl]
    refine ⟨_, rfl, a, _, 0, _, rfl, rfl, ha, rfl, _, rfl, _, _, rfl, rfl, _, rfl, ?_⟩
    by_cases e : lo ≤ i
    · rw [if_pos (decide_eq_true e)]
      rw [decide_eq_true e, Bool.true_and] at q
      exact ⟨_, rfl, a, _, 1, _, rfl, rfl, ha, rfl, _, _, rfl, rfl, q⟩
    · rw [if_neg (fun z => e (of_decide_eq_true z))]
      rw [decide_eq_false e, Bool.false_and] at q
      exact q

end
end Vf

set_option maxRecDepth 100000
set_option maxHeartbeats 4000000
namespace Vf
open PySem PySem.Spec PyProof.Rows L2 SX
section
variable {P : Program} {w : World} {K : PySem.W.Frag} {mg : Str → Option Value} {base : Heap}
theorem ok_isPlain {f : Addr} {fd : FuncData} (F : C8.Def K mg "is_plain" s_isPlain f fd) (b : Binds K fd ["value"] []) (T : Tx K w mg) {CL : Addr} (CO : Co P w K mg base CL) (A0 : Ca K CL)  : C8.Cal P w K mg base 1 "is_plain" (sp_isPlain K CL) [] := by
  refine C8.cal0 F b .nil sc_isPlain (fun vs H Q E h => ?_) (fun cdv A outer s H vs Q E hr h => ?_)
  · obtain ⟨x, rfl, _⟩ := h; rfl
  have hu := hu_of hr
  refine ⟨_, (pss_one (ps_ret (pe_and (pe_callB call_isi (by rfl) T.z_isinstance (by decide +kernel) (pa_cons (pv 0) (pa_cons (pe_cls (CO.g_LineTest) rfl) pa_nil))) (pe_and (pe_cmpR op_ne (pe_fld (pv 0) rfl) pe_str (nomark _)) (pe_one (pe_not (pe_fld (pv 0) rfl))))))), ?_⟩

  obtain ⟨x, rfl, h⟩ := h
  rcases h with ⟨hn, q⟩ | ⟨a, dx, p, u, v, rfl, ha, hp, q⟩
  · rcases hn with ⟨t, ty, e⟩ | ⟨a, dx, p, u, v, n, rfl, ha, hp⟩
    · refine ⟨_, rfl, _, _, _, _, false, rfl, .own CL, ty, e, false, rfl, ?_⟩
      rw [if_neg Bool.false_ne_true]
      exact q
    · refine ⟨_, rfl, _, _, _, _, true, rfl, .own CL, .base (TyOf.ins ha CO.i.cl CO.i.ha CO.i.hn CO.i.htk CO.i.hm), CO.i.me, true, rfl, ?_⟩
      rw [if_pos rfl]
      refine ⟨_, rfl, a, CL, dx, _, _, rfl, ha, CO.i.cl, CO.a1, rfl, rfl, _, rfl, ?_⟩
      by_cases e : p.1 = "from"
      · rw [if_neg (by rw [e]; decide)]
        exact q
      · rw [if_pos (by rw [show decide (V.str p.1 = V.str "from") = false from decide_eq_false fun z => e (V.str.inj z)]; rfl)]
        refine ⟨_, rfl, a, CL, dx, _, _, rfl, ha, CO.i.cl, CO.a5, rfl, n, rfl, ?_⟩
        rcases hp with z | z
        · exact absurd z e
        · rw [z]; exact q
  · refine ⟨_, rfl, _, _, _, _, true, rfl, .own CL, .base (TyOf.ins ha CO.i.cl CO.i.ha CO.i.hn CO.i.htk CO.i.hm), CO.i.me, true, rfl, ?_⟩
    rw [if_pos rfl]
    refine ⟨_, rfl, a, CL, dx, _, _, rfl, ha, CO.i.cl, CO.a1, rfl, rfl, _, rfl, ?_⟩
    rw [if_pos (by rw [show decide (V.str p.1 = V.str "from") = false from decide_eq_false fun z => hp (V.str.inj z)]; rfl)]
    exact ⟨_, rfl, a, CL, dx, _, _, rfl, ha, CO.i.cl, CO.a5, rfl, false, rfl, q⟩

end
end Vf

set_option maxRecDepth 100000
set_option maxHeartbeats 4000000
namespace Vf
open PySem PySem.Spec PyProof.Rows L2 SX
section
variable {P : Program} {w : World} {K : PySem.W.Frag} {mg : Str → Option Value} {base : Heap}
theorem ok_init {f : Addr} {fd : FuncData} {q : Str} {CL : Addr} (A0 : Ca K CL) (M : Mk K CL f) (g : mg "LineTest" = some (.ref CL)) (F : C8.Fun K "__init__" q s_LineTest_init f fd) (b : Binds K fd ["self", "word", "argument", "parts", "negated"] []) :
    C8.Mak P w K mg base 1 "LineTest" CL (sp_LineTest_init CL) [] := by
  refine C8.mak0 M g F b .nil sc_LineTest_init (fun vs H Q E h => ?_) (fun cdv A outer s H vs Q E hr h => ?_)
  · obtain ⟨a, dx, pa, k, g, x, y, n, rfl, _⟩ := h; rfl
  refine ⟨_, (pss_cons (ps_fld (pv 0) (pv 1) rfl)
      (pss_cons (ps_fld (pv 0) (pv 2) rfl)
      (pss_cons (ps_fld (pv 0) (pe_ix ix_tup (pv 3) pe_int (fun _ _ => rfl)) rfl)
      (pss_cons (ps_fld (pv 0) (pe_ix ix_tup (pv 3) pe_int (fun _ _ => rfl)) rfl)
      (pss_one (ps_fld (pv 0) (pv 4) rfl)))))), ?_⟩
  obtain ⟨a, dx, pa, k, g, x, y, n, rfl, ha, hp, q⟩ := h
  have ne : pa ≠ a := ne_of hp ha (fun z => nomatch z)
  have cl := A0.i.cl
  refine ⟨_, rfl, _, rfl, a, CL, dx, [], rfl, ha, cl, A0.a1, by decide, ?_⟩
  refine ⟨_, rfl, _, rfl, a, CL, dx, _, rfl, upd_same, cl, A0.a2, (by decide : (1 : Nat) < 1000), ?_⟩
  refine ⟨_, rfl, pa, [x, y], 0, _, rfl, rfl, SqT.of (by rw [upd_ne ne, upd_ne ne]; exact hp), rfl, _, rfl, a, CL, dx, _, rfl, upd_same, cl, A0.a3, (by decide : (2 : Nat) < 1000), ?_⟩
  refine ⟨_, rfl, pa, [x, y], 1, _, rfl, rfl, SqT.of (by rw [upd_ne ne, upd_ne ne, upd_ne ne]; exact hp), rfl, _, rfl, a, CL, dx, _, rfl, upd_same, cl, A0.a4, (by decide : (3 : Nat) < 1000), ?_⟩
  refine ⟨_, rfl, _, rfl, a, CL, dx, _, rfl, upd_same, cl, A0.a5, (by decide : (4 : Nat) < 1000), ?_⟩
  show Q .non _
  rw [upd_upd, upd_upd, upd_upd, upd_upd]
  exact q

end
end Vf

set_option maxRecDepth 100000
set_option maxHeartbeats 4000000
namespace Vf
open PySem PySem.Spec PyProof.Rows L2 SX
section
variable {P : Program} {w : World} {K : PySem.W.Frag} {mg : Str → Option Value} {base : Heap}
theorem eq_flat {K : PySem.W.Frag} {H : Hp} {p q : Pt} (h : OkP p) (h' : OkP q) : ∃ d e, Dp K H p.2 d ∧ Dp K H q.2 e ∧ SeqAt.shaped d = true ∧ SeqAt.shaped e = true ∧ d = vD p.2 ∧ e = vD q.2 := ⟨_, _, (sc_dp h).1, (sc_dp h').1, (sc_dp (K := K) (H := H) h).2, (sc_dp (K := K) (H := H) h').2, rfl, rfl⟩
theorem dnon : SeqAt.shaped PyData.none = true := by simp [SeqAt.shaped, PyData.canLay0, PyData.depth]
theorem dV (a b : Str) : decide (V.str a = V.str b) = decide (a = b) := decide_eq_decide.mpr ⟨fun z => V.str.inj z, fun z => by rw [z]⟩
theorem dB (a b : Bool) : decide (V.bl a = V.bl b) = decide (a = b) := decide_eq_decide.mpr ⟨fun z => V.bl.inj z, fun z => by rw [z]⟩
theorem ok_eqP {f : Addr} {fd : FuncData} {q : Str} {CL : Addr} (A0 : Ca K CL) (gc : mg "LineTest" = some (.ref CL)) (T : Tx K w mg) (F : C8.Fun K "__eq__" q s_LineTest_eq f fd) : FnOk P w K mg base C8.CX0 1 f fd ["self", "other"] (sp_LineTest_eqP CL) := by
  refine C8.fn0 F sc_LineTest_eq (fun vs H Q E h => ?_) (fun cdv A outer s H vs Q E hr h => ?_)
  · obtain ⟨a, b, r, rfl, _⟩ := h; rfl
  refine ⟨_, (pss_one (ps_ret (pe_and (pe_callB (C8.call_isC A0.i) (by rfl) T.z_isinstance (by decide +kernel) (pa_cons (pv 1) (pa_cons (pe_cls (gc) rfl) pa_nil))) (pe_and (pe_cmpR op_eq (pe_fld (pv 0) rfl) (pe_fld (pv 1) rfl) (nomark _)) (pe_and (pe_cmpR (op_eqD hr.units) (pe_fld (pv 0) rfl) (pe_fld (pv 1) rfl) (nomark _)) (pe_and (pe_cmpR (op_eqD hr.units) (pe_fld (pv 0) rfl) (pe_fld (pv 1) rfl) (nomark _)) (pe_and (pe_cmpR (op_eqD hr.units) (pe_fld (pv 0) rfl) (pe_fld (pv 1) rfl) (nomark _)) (pe_one (pe_cmpR op_eq (pe_fld (pv 0) rfl) (pe_fld (pv 1) rfl) (nomark _)))))))))), ?_⟩
  obtain ⟨a, b, r, rfl, ⟨p, q, n, m, ⟨dx, ha⟩, ⟨dy, hb⟩, op, oq, rfl⟩, k⟩ := h
  have k' := k H (fun _ _ z => z)
  rw [eqT_pl] at k'
  have cl := A0.i.cl
  obtain ⟨d, e, D1, D2, S1, S2, e1, e2⟩ := eq_flat (K := K) (H := H) op oq
  refine ⟨_, rfl, b, dy, _, rfl, hb, true, rfl, ifT ?_⟩
  refine ⟨_, rfl, a, CL, dx, _, _, rfl, ha, cl, A0.a1, rfl, _, rfl, b, CL, dy, _, _, rfl, hb, cl, A0.a1, rfl, rfl, _, rfl, ?_⟩
  rw [dV]
  by_cases c1 : p.1 = q.1
  · rw [decide_eq_true c1]
    rw [decide_eq_true c1, Bool.true_and] at k'
    refine ifT ?_
    refine ⟨_, rfl, a, CL, dx, _, _, rfl, ha, cl, A0.a2, rfl, _, rfl, b, CL, dy, _, _, rfl, hb, cl, A0.a2, rfl, d, e, D1, D2, S1, S2, _, rfl, ?_⟩
    rw [e1, e2]
    cases c2 : PyData.eqv (vD p.2) (vD q.2) with
    | false =>
      rw [c2, Bool.false_and] at k'
      exact ifF k'
    | true =>
      rw [c2, Bool.true_and] at k'
      refine ifT ?_
      refine ⟨_, rfl, a, CL, dx, _, _, rfl, ha, cl, A0.a3, rfl, _, rfl, b, CL, dy, _, _, rfl, hb, cl, A0.a3, rfl, _, _, .non, .non, dnon, dnon, _, rfl, ifT ?_⟩
      refine ⟨_, rfl, a, CL, dx, _, _, rfl, ha, cl, A0.a4, rfl, _, rfl, b, CL, dy, _, _, rfl, hb, cl, A0.a4, rfl, _, _, .non, .non, dnon, dnon, _, rfl, ifT ?_⟩
      refine ⟨_, rfl, a, CL, dx, _, _, rfl, ha, cl, A0.a5, rfl, _, rfl, b, CL, dy, _, _, rfl, hb, cl, A0.a5, rfl, rfl, ?_⟩
      rw [dB]
      exact k'
  · rw [decide_eq_false c1]
    rw [decide_eq_false c1, Bool.false_and] at k'
    exact ifF k'
theorem ok_eq {f : Addr} {fd : FuncData} {q : Str} {CL : Addr} (A0 : Ca K CL) (gc : mg "LineTest" = some (.ref CL)) (T : Tx K w mg) (F : C8.Fun K "__eq__" q s_LineTest_eq f fd) (EQ : Eqc P w K mg base 1 CL (EqP CL)) : FnOk P w K mg base C8.CX0 2 f fd ["self", "other"] (sp_LineTest_eq CL) := by
  refine C8.fn0 F sc_LineTest_eq (fun vs H Q E h => ?_) (fun cdv A outer s H vs Q E hr h => ?_)
  · obtain ⟨a, b, r, rfl, _⟩ := h; rfl
  refine ⟨_, (pss_one (ps_ret (pe_and (pe_callB (C8.call_isC A0.i) (by rfl) T.z_isinstance (by decide +kernel) (pa_cons (pv 1) (pa_cons (pe_cls (gc) rfl) pa_nil))) (pe_and (pe_cmpR op_eq (pe_fld (pv 0) rfl) (pe_fld (pv 1) rfl) (nomark _)) (pe_and (pe_cmpR (op_eqD hr.units) (pe_fld (pv 0) rfl) (pe_fld (pv 1) rfl) (nomark _)) (pe_and (pe_cmpR (op_eqI2 EQ hr (by decide) (op_eqD hr.units)) (pe_fld (pv 0) rfl) (pe_fld (pv 1) rfl) (nomark _)) (pe_and (pe_cmpR (op_eqI2 EQ hr (by decide) (op_eqD hr.units)) (pe_fld (pv 0) rfl) (pe_fld (pv 1) rfl) (nomark _)) (pe_one (pe_cmpR op_eq (pe_fld (pv 0) rfl) (pe_fld (pv 1) rfl) (nomark _)))))))))), ?_⟩
  obtain ⟨a, b, r, rfl, ⟨t, u, ta, tb, ot, ou, rfl⟩, k⟩ := h
  have cl := A0.i.cl
  match t, u, ta, tb, ot, ou, k with
  | .pl p n, .pl q m, ⟨dx, ha⟩, ⟨dy, hb⟩, op, oq, k =>
    have k' := k H (fun _ _ z => z)
    rw [eqT_pl] at k'
    obtain ⟨d, e, D1, D2, S1, S2, e1, e2⟩ := eq_flat (K := K) (H := H) op oq
    refine ⟨_, rfl, b, dy, _, rfl, hb, true, rfl, ifT ?_⟩
    refine ⟨_, rfl, a, CL, dx, _, _, rfl, ha, cl, A0.a1, rfl, _, rfl, b, CL, dy, _, _, rfl, hb, cl, A0.a1, rfl, rfl, _, rfl, ?_⟩
    rw [dV]
    by_cases c1 : p.1 = q.1
    · rw [decide_eq_true c1]
      rw [decide_eq_true c1, Bool.true_and] at k'
      refine ifT ?_
      refine ⟨_, rfl, a, CL, dx, _, _, rfl, ha, cl, A0.a2, rfl, _, rfl, b, CL, dy, _, _, rfl, hb, cl, A0.a2, rfl, d, e, D1, D2, S1, S2, _, rfl, ?_⟩
      rw [e1, e2]
      cases c2 : PyData.eqv (vD p.2) (vD q.2) with
      | false =>
        rw [c2, Bool.false_and] at k'
        exact ifF k'
      | true =>
        rw [c2, Bool.true_and] at k'
        refine ifT ?_
        refine ⟨_, rfl, a, CL, dx, _, _, rfl, ha, cl, A0.a3, rfl, _, rfl, b, CL, dy, _, _, rfl, hb, cl, A0.a3, rfl, .inl ⟨_, _, .non, .non, dnon, dnon, _, rfl, ifT ?_⟩⟩
        refine ⟨_, rfl, a, CL, dx, _, _, rfl, ha, cl, A0.a4, rfl, _, rfl, b, CL, dy, _, _, rfl, hb, cl, A0.a4, rfl, .inl ⟨_, _, .non, .non, dnon, dnon, _, rfl, ifT ?_⟩⟩
        refine ⟨_, rfl, a, CL, dx, _, _, rfl, ha, cl, A0.a5, rfl, _, rfl, b, CL, dy, _, _, rfl, hb, cl, A0.a5, rfl, rfl, ?_⟩
        rw [dB]
        exact k'
    · rw [decide_eq_false c1]
      rw [decide_eq_false c1, Bool.false_and] at k'
      exact ifF k'
  | .pl p n, .rg q q' m, ⟨dx, ha⟩, ⟨dy, b1, b2, hb, _, _⟩, op, oq, k =>
    have k' := k H (fun _ _ z => z)
    rw [eqT_plrg op] at k'
    refine ⟨_, rfl, b, dy, _, rfl, hb, true, rfl, ifT ?_⟩
    refine ⟨_, rfl, a, CL, dx, _, _, rfl, ha, cl, A0.a1, rfl, _, rfl, b, CL, dy, _, _, rfl, hb, cl, A0.a1, rfl, rfl, _, rfl, ?_⟩
    rw [dV, decide_eq_false op.nf]
    exact ifF k'
  | .rg p p' n, .pl q m, ⟨dx, a1, a2, ha, _, _⟩, ⟨dy, hb⟩, op, oq, k =>
    have k' := k H (fun _ _ z => z)
    rw [eqT_rgpl oq] at k'
    refine ⟨_, rfl, b, dy, _, rfl, hb, true, rfl, ifT ?_⟩
    refine ⟨_, rfl, a, CL, dx, _, _, rfl, ha, cl, A0.a1, rfl, _, rfl, b, CL, dy, _, _, rfl, hb, cl, A0.a1, rfl, rfl, _, rfl, ?_⟩
    rw [dV, decide_eq_false fun z => oq.nf z.symm]
    exact ifF k'
  | .rg p p' n, .rg q q' m, ⟨dx, a1, a2, ha, ha1, ha2⟩, ⟨dy, b1, b2, hb, hb1, hb2⟩, op, oq, k =>
    rw [eqT_rg] at k
    refine ⟨_, rfl, b, dy, _, rfl, hb, true, rfl, ifT ?_⟩
    refine ⟨_, rfl, a, CL, dx, _, _, rfl, ha, cl, A0.a1, rfl, _, rfl, b, CL, dy, _, _, rfl, hb, cl, A0.a1, rfl, rfl, _, rfl, ifT ?_⟩
    refine ⟨_, rfl, a, CL, dx, _, _, rfl, ha, cl, A0.a2, rfl, _, rfl, b, CL, dy, _, _, rfl, hb, cl, A0.a2, rfl, _, _, .non, .non, dnon, dnon, _, rfl, ifT ?_⟩
    obtain ⟨d1, h1⟩ := id ha1
    obtain ⟨e1, g1⟩ := id hb1
    refine ⟨_, rfl, a, CL, dx, _, _, rfl, ha, cl, A0.a3, rfl, _, rfl, b, CL, dy, _, _, rfl, hb, cl, A0.a3, rfl, .inr ⟨a1, b1, _, d1, e1, _, _, rfl, rfl, h1, g1, ⟨p, q, false, false, ha1, hb1, op.1, oq.1, rfl⟩, fun H1 s1 => ?_⟩⟩
    refine ⟨_, rfl, ?_⟩
    rw [Bool.bne_false]
    cases c1 : eqT (.pl p false) (.pl q false) with
    | false =>
      rw [c1, Bool.false_and] at k
      exact ifF (k H1 s1)
    | true =>
      rw [c1, Bool.true_and] at k
      refine ifT ?_
      obtain ⟨d2, h2⟩ := id (ha2.sm s1)
      obtain ⟨e2, g2⟩ := id (hb2.sm s1)
      refine ⟨_, rfl, a, CL, dx, _, _, rfl, s1 _ _ ha, cl, A0.a4, rfl, _, rfl, b, CL, dy, _, _, rfl, s1 _ _ hb, cl, A0.a4, rfl, .inr ⟨a2, b2, _, d2, e2, _, _, rfl, rfl, h2, g2, ⟨p', q', false, false, ha2.sm s1, hb2.sm s1, op.2, oq.2, rfl⟩, fun H2 s2 => ?_⟩⟩
      refine ⟨_, rfl, ?_⟩
      have s3 := Same.trans s1 s2
      rw [Bool.bne_false]
      cases c2 : eqT (.pl p' false) (.pl q' false) with
      | false =>
        rw [c2, Bool.false_and] at k
        exact ifF (k H2 s3)
      | true =>
        rw [c2, Bool.true_and] at k
        refine ifT ?_
        refine ⟨_, rfl, a, CL, dx, _, _, rfl, s3 _ _ ha, cl, A0.a5, rfl, _, rfl, b, CL, dy, _, _, rfl, s3 _ _ hb, cl, A0.a5, rfl, rfl, ?_⟩
        rw [dB]
        exact k H2 s3

end
end Vf

set_option maxRecDepth 100000
set_option maxHeartbeats 4000000
namespace Vf
open PySem PySem.Spec PyProof.Rows L2 SX
section
variable {P : Program} {w : World} {K : PySem.W.Frag} {mg : Str → Option Value} {base : Heap}
theorem ok_plainTruth {f : Addr} {fd : FuncData} (F : C8.Def K mg "plain_truth" s_plainTruth f fd) (b : Binds K fd ["test", "lines", "place"] []) (T : Tx K w mg) {CL : Addr} (A0 : Ca K CL)  : C8.Cal P w K mg base 1 "plain_truth" (sp_plainTruth K CL) [] := by
  refine C8.cal0 F b .nil sc_plainTruth (fun vs H Q E h => ?_) (fun cdv A outer s H vs Q E hr h => ?_)
  · obtain ⟨a, la, p, n, ls, i, rfl, _⟩ := h; rfl
  have hu := hu_of hr
  refine ⟨_, (pss_cons (ps_par (i := 3) (j := 4) (by rfl) sc_plainTruth.nd rfl rfl (by decide) rfl rfl (pa_cons (pe_ix ix_seq (pv 1) (pv 2) (fun _ _ => rfl)) (pa_cons (pe_fld (pv 0) rfl) pa_nil)) (by rfl))
      (pss_one (ps_match (pe_fld (pv 0) rfl) (mc_val (pss_one (ps_ret (pe_bm PySem.F.plainAttrs_str PySem.F.slot_str_startswith PySem.F.type_str_startswith mt_startswith (pv 3) (pa_cons (pv 4) pa_nil))))
      (mc_val (pss_one (ps_ret (pe_bm PySem.F.plainAttrs_str PySem.F.slot_str_endswith PySem.F.type_str_endswith mt_endswith (pv 3) (pa_cons (pv 4) pa_nil))))
      (mc_val (pss_one (ps_ret (pe_cmpR op_in_str (pv 4) (pv 3) rfl)))
      (mc_val (pss_one (ps_ret (pe_cmpR op_eq (pv 3) (pv 4) (nomark _))))
      (mc_val (pss_one (ps_ret (pe_cmpR op_le (pe_callB call_len (by rfl) T.z_len PySem.boot_len (pa_cons (pv 3) pa_nil)) (pv 4) (nomark _))))
      (mc_val (pss_one (ps_ret (pe_cmpR op_eq (pe_op op_add (pv 2) pe_int) (pv 4) (nomark _))))
      (mc_val (pss_one (ps_ret (pe_cmpR op_eq (pe_op op_add (pv 2) pe_int) (pe_callB call_len (by rfl) T.z_len PySem.boot_len (pa_cons (pv 1) pa_nil)) (nomark _))))
      (mc_any (pss_one (ps_ret pe_bl))))))))))))), ?_⟩

  obtain ⟨a, la, p, n, ls, i, rfl, ⟨dx, ha⟩, op, ⟨hl, h1, h2⟩, hi, q⟩ := h
  obtain ⟨e1, e2⟩ := ls_at hi
  have l3 := h2 _ (List.getElem_mem hi)
  generalize ls[i] = l at e1 e2 l3
  have cl := A0.i.cl
  refine ⟨_, rfl, _, rfl, ?_⟩
  have go : ∀ {z : V → Hp → Prop}, z (.str l) H → rIx K (.ref la) (.int (i : Int)) H z := fun {z} hz => hl.elim (fun x => .inl ⟨la, _, _, _, rfl, rfl, x, e1, hz⟩) fun x => .inr (.inl ⟨la, _, _, _, rfl, rfl, x, e1, hz⟩)
  refine go ?_
  refine ⟨_, rfl, a, CL, dx, _, _, rfl, ha, cl, A0.a2, rfl, ?_⟩
  refine ⟨_, _, rfl, _, rfl, a, CL, dx, _, _, rfl, ha, cl, A0.a1, rfl, ?_⟩
  cases op with
  | @wd k t hk ht1 ht2 =>
    rcases hk with rfl | rfl | rfl | rfl
    · refine ⟨_, rfl, ify (decide_eq_true rfl) ?_⟩
      rw [plT_begins e2] at q
      exact ⟨_, rfl, rfl, _, rfl, _, _, rfl, rfl, q⟩
    · refine ⟨_, rfl, ifn (decide_eq_false (by dsimp only; decide)) ⟨_, rfl, ify (decide_eq_true rfl) ?_⟩⟩
      rw [plT_ends e2] at q
      exact ⟨_, rfl, rfl, _, rfl, _, _, rfl, rfl, q⟩
    · refine ⟨_, rfl, ifn (decide_eq_false (by dsimp only; decide)) ⟨_, rfl, ifn (decide_eq_false (by dsimp only; decide)) ⟨_, rfl, ify (decide_eq_true rfl) ?_⟩⟩⟩
      rw [plT_has e2] at q
      exact ⟨_, rfl, _, rfl, _, _, rfl, rfl, q⟩
    · refine ⟨_, rfl, ifn (decide_eq_false (by dsimp only; decide)) ⟨_, rfl, ifn (decide_eq_false (by dsimp only; decide)) ⟨_, rfl, ifn (decide_eq_false (by dsimp only; decide)) ⟨_, rfl, ify (decide_eq_true rfl) ?_⟩⟩⟩⟩
      rw [plT_is e2] at q
      exact ⟨_, rfl, _, rfl, rfl, q⟩
  | @sh m hm =>
    refine ⟨_, rfl, ifn (decide_eq_false (by dsimp only; decide)) ⟨_, rfl, ifn (decide_eq_false (by dsimp only; decide)) ⟨_, rfl, ifn (decide_eq_false (by dsimp only; decide)) ⟨_, rfl, ifn (decide_eq_false (by dsimp only; decide)) ⟨_, rfl, ify (decide_eq_true rfl) ?_⟩⟩⟩⟩⟩
    rw [plT_short e2] at q
    exact ⟨_, rfl, _, l.length, rfl, ⟨szB (by omega), rfl⟩, _, rfl, _, _, rfl, rfl, q⟩
  | @nu m hm1 hm2 =>
    refine ⟨_, rfl, ifn (decide_eq_false (by dsimp only; decide)) ⟨_, rfl, ifn (decide_eq_false (by dsimp only; decide)) ⟨_, rfl, ifn (decide_eq_false (by dsimp only; decide)) ⟨_, rfl, ifn (decide_eq_false (by dsimp only; decide)) ⟨_, rfl, ifn (decide_eq_false (by dsimp only; decide)) ⟨_, rfl, ify (decide_eq_true rfl) ?_⟩⟩⟩⟩⟩⟩
    rw [plT_number] at q
    exact ⟨_, rfl, _, _, rfl, rfl, _, rfl, rfl, q⟩
  | @ba k hk =>
    rcases hk with rfl | rfl
    · refine ⟨_, rfl, ifn (decide_eq_false (by dsimp only; decide)) ⟨_, rfl, ifn (decide_eq_false (by dsimp only; decide)) ⟨_, rfl, ifn (decide_eq_false (by dsimp only; decide)) ⟨_, rfl, ifn (decide_eq_false (by dsimp only; decide)) ⟨_, rfl, ifn (decide_eq_false (by dsimp only; decide)) ⟨_, rfl, ifn (decide_eq_false (by dsimp only; decide)) ⟨_, rfl, ifn (decide_eq_false (by dsimp only; decide)) ?_⟩⟩⟩⟩⟩⟩⟩
      rw [plT_all] at q
      exact q
    · refine ⟨_, rfl, ifn (decide_eq_false (by dsimp only; decide)) ⟨_, rfl, ifn (decide_eq_false (by dsimp only; decide)) ⟨_, rfl, ifn (decide_eq_false (by dsimp only; decide)) ⟨_, rfl, ifn (decide_eq_false (by dsimp only; decide)) ⟨_, rfl, ifn (decide_eq_false (by dsimp only; decide)) ⟨_, rfl, ifn (decide_eq_false (by dsimp only; decide)) ⟨_, rfl, ify (decide_eq_true rfl) ?_⟩⟩⟩⟩⟩⟩⟩
      rw [plT_last] at q
      exact ⟨_, rfl, _, _, rfl, rfl, _, rfl, _, ls.length, rfl, hl.elim (fun x => .inl ⟨_, x, by rw [List.length_map]⟩) (fun x => .inr ⟨_, x, by rw [List.length_map]⟩), rfl, q⟩

end
end Vf

set_option maxRecDepth 100000
set_option maxHeartbeats 4000000
namespace Vf
open PySem PySem.Spec PyProof.Rows L2 SX
section
variable {P : Program} {w : World} {K : PySem.W.Frag} {mg : Str → Option Value} {base : Heap}
theorem rg_drop {ins : Bool} {bs es : List Bool} {i : Nat} {b e : Bool} (hb : bs[i]? = some b) (he : es[i]? = some e) : rgT ins (bs.drop i) (es.drop i) = (ins || b) :: rgT (if ins then !e else b) (bs.drop (i + 1)) (es.drop (i + 1)) := by
  obtain ⟨h1, e1⟩ := List.getElem?_eq_some_iff.mp hb
  obtain ⟨h2, e2⟩ := List.getElem?_eq_some_iff.mp he
  rw [List.drop_eq_getElem_cons h1, List.drop_eq_getElem_cons h2, e1, e2]
  rfl
theorem ok_rangeTruths {f : Addr} {fd : FuncData} (F : C8.Def K mg "range_truths" s_rangeTruths f fd) (b : Binds K fd ["begins", "ends"] []) (T : Tx K w mg)  : C8.Cal P w K mg base 1 "range_truths" (sp_rangeTruths K) [] := by
  refine C8.cal0 F b .nil sc_rangeTruths (fun vs H Q E h => ?_) (fun cdv A outer s H vs Q E hr h => ?_)
  · obtain ⟨x, y, bs, es, rfl, _⟩ := h; rfl
  have hu := hu_of hr
  refine ⟨_, (pss_cons (ps_set (i := 2) sc_rangeTruths.nd rfl (Or.inl rfl) (pe_lst pa_nil))
      (pss_cons (ps_set (i := 3) sc_rangeTruths.nd rfl (Or.inl rfl) pe_bl)
      (pss_cons (ps_for PassesOwn.never rfl (RZ.pi_zipA (by rfl) T.z_zip (pa_cons (pv 0) (pa_cons (pv 1) pa_nil))) (pg_tup rfl (pgs_cons (pg_name (i := 4) sc_rangeTruths.nd rfl (Or.inl rfl)) (pgs_cons (pg_name (i := 5) sc_rangeTruths.nd rfl (Or.inl rfl)) pgs_nil)))
      (pss_cons (ps_expr (pe_bm PySem.F.plainAttrs_list PySem.F.slot_list_append PySem.F.type_list_append mt_append (pv 2) (pa_cons (pe_or (pv 3) (pe_one (pv 4))) pa_nil)))
      (pss_one (ps_set (i := 3) sc_rangeTruths.nd rfl (Or.inl rfl) (pe_ifExp (pt_val (pv 3)) (pe_not (pv 5)) (pv 4))))))
      (pss_one (ps_ret (pv 2)))))), ?_⟩

  obtain ⟨x, y, bs, es, rfl, hx, hy, hl, h1, q⟩ := h
  refine ⟨Nat.zero_le _, fun L nL => ?_⟩
  have nx := ne_of_none hx nL
  have ny := ne_of_none hy nL
  refine ⟨_, rfl, _, rfl, x, y, _, _, rfl, .inr ⟨SqT.of (by rw [upd_ne nx]; exact hx), SqT.of (by rw [upd_ne ny]; exact hy), ?_⟩⟩
  refine RZ.for_zipT (K := K) (xs := bs.map V.bl) (ys := es.map V.bl) (by rw [List.length_map, List.length_map, hl]) (fun i σ H' => ∃ (ins : Bool) (acc : List Bool) (v4 v5 : Option V), σ = [some (.ref x), some (.ref y), some (.ref L), some (.bl ins), v4, v5] ∧ acc ++ rgT ins (bs.drop i) (es.drop i) = rgT false bs es ∧ acc.length = i ∧ H' L = some (.lst (acc.map V.bl)) ∧ Same H H')
    ⟨false, [], none, none, rfl, rfl, rfl, upd_same, same_new (fun _ _ z => z) nL _⟩ ?_ ?_ ?_
  · rintro i σ H' ⟨ins, acc, v4, v5, rfl, _, _, _, sm⟩
    exact ⟨SqT.of (sm _ _ hx), SqT.of (sm _ _ hy)⟩
  · rintro i u v T σ H' hu hv ⟨ins, acc, v4, v5, rfl, ea, el, hL, sm⟩ hT
    rw [List.getElem?_map] at hu hv
    cases hb : bs[i]? with
    | none => rw [hb] at hu; cases hu
    | some b =>
      cases he : es[i]? with
      | none => rw [he] at hv; cases hv
      | some e =>
        rw [hb] at hu
        rw [he] at hv
        obtain rfl : V.bl b = u := Option.some.inj hu
        obtain rfl : V.bl e = v := Option.some.inj hv
        have hi : i < bs.length := (List.getElem?_eq_some_iff.mp hb).1
        have nT := ne_of_none hL hT
        have hL' : (upd H' T (.tup [V.bl b, V.bl e])) L = some (.lst (acc.map V.bl)) := by rw [upd_ne nT]; exact hL
        have sm' : Same H (upd H' T (.tup [V.bl b, V.bl e])) := same_new sm hT _
        refine ⟨T, _, rfl, SqT.of upd_same, rfl, ?_⟩
        rw [rg_drop hb he] at ea
        have ea' : (acc ++ [ins || b]) ++ rgT (if ins then !e else b) (bs.drop (i + 1)) (es.drop (i + 1)) = rgT false bs es := by rw [List.append_assoc]; exact ea
        have el' : (acc ++ [ins || b]).length = i + 1 := by rw [List.length_append, el]; rfl
        generalize (upd H' T (.tup [V.bl b, V.bl e])) = H2 at hL' sm' ⊢
        refine ⟨_, _, rfl, _, _, rfl, rfl, _, rfl, ⟨.inl ⟨rfl, _, SqL.of hL'⟩, _, rfl, ins, rfl, ?_⟩⟩
        cases ins with
        | true =>
          refine ifT ?_
          refine ⟨L, _, _, rfl, rfl, hL', szL (by rw [List.length_map, el]; omega), ?_⟩
          refine ⟨_, rfl, true, rfl, ifT ⟨_, rfl, e, rfl, ?_⟩⟩
          exact ⟨_, _, _, _, rfl, ea', el', by rw [upd_same, List.map_append]; rfl, same_upd sm' nL _⟩
        | false =>
          refine ifF ⟨_, rfl, ?_⟩
          refine ⟨L, _, _, rfl, rfl, hL', szL (by rw [List.length_map, el]; omega), ?_⟩
          refine ⟨_, rfl, false, rfl, ifF ⟨_, rfl, ?_⟩⟩
          exact ⟨_, _, _, _, rfl, ea', el', by rw [upd_same, List.map_append]; rfl, same_upd sm' nL _⟩
  · rintro σ H' ⟨ins, acc, v4, v5, rfl, ea, el, hL, sm⟩
    rw [List.length_map] at ea el
    rw [List.drop_length, hl, List.drop_length] at ea
    rw [show rgT ins [] [] = [] from rfl, List.append_nil] at ea
    exact ⟨_, rfl, q H' L sm (by rw [hL, ea])⟩

end
end Vf

set_option maxRecDepth 100000
set_option maxHeartbeats 4000000
namespace Vf
open PySem PySem.Spec PyProof.Rows L2 SX
section
variable {P : Program} {w : World} {K : PySem.W.Frag} {mg : Str → Option Value} {base : Heap}
theorem pl_len {p : Pt} {ls : List Str} : (plTs p ls).length = ls.length := by unfold plTs; rw [List.length_map, List.length_range]
theorem bne_bl (a b : Bool) : (!decide (V.bl a = V.bl b)) = (a != b) := by cases a <;> cases b <;> rfl
theorem ls_len {K : PySem.W.Frag} {H : Hp} {la : Addr} {ls : List Str} (h : LsAt K H la ls) : (∃ xs, SqL K H la xs ∧ ls.length = xs.length) ∨ ∃ xs, SqT K H la xs ∧ ls.length = xs.length := h.1.elim (fun x => .inl ⟨_, x, (List.length_map ..).symm⟩) fun x => .inr ⟨_, x, (List.length_map ..).symm⟩
theorem rg_len : ∀ (bs es : List Bool) (ins : Bool), bs.length = es.length → (rgT ins bs es).length = bs.length
  | [], [], _, _ => rfl
  | b :: bs, e :: es, ins, h => congrArg (· + 1) (rg_len bs es _ (Nat.succ.inj h))
theorem ok_truthsP {f : Addr} {fd : FuncData} {q : Str} {CL : Addr} (A0 : Ca K CL) (me : Meth K CL "truths" f) (F : C8.Fun K "truths" q s_LineTest_truths f fd) (b : Binds K fd ["self", "lines"] []) (T : Tx K w mg) (C_plainTruth : C8.Cal P w K mg base 1 "plain_truth" (sp_plainTruth K CL) []) :
    C8.Met P w K mg base 2 CL "truths" (sp_LineTest_truthsP K CL) [] := by
  refine C8.met0 A0.i.cl me F b sc_LineTest_truths (fun vs H Q E h => ?_) (fun cdv A outer s H vs Q E hr h => ?_)
  · obtain ⟨a, la, p, n, ls, rfl, _⟩ := h; rfl
  have hu := hu_of hr
  refine ⟨_, (C8.pss_cut (ps_if (pt_cmpR op_eq (pe_fld (pv 0) rfl) pe_str (nomark _))
      (pss_one ps_never)
      (pss_one (ps_setLc (i := 2) (own := [("place", 3)]) (g := (gName 3)) (tt := tYes) rfl sc_LineTest_truths.nd rfl rfl (sw_true rfl rfl rfl (by decide +kernel)) (pi_range1 (by rfl) T.z_range (pa_cons (pe_callB call_len (by rfl) T.z_len PySem.boot_len (pa_cons (pv 1) pa_nil)) pa_nil)) (blkOk_by (N := N_LineTest_truths) (sc := C8.fnScope s_LineTest_truths) (by decide +kernel)) (fun _ _ _ _ _ => pg_name (i := 3) sc_LineTest_truths.nd rfl (Or.inl rfl)) (fun _ _ _ _ _ => pts_nil) (fun _ _ _ _ _ => (C8.pe_c C_plainTruth hr (by decide) rfl (pa_cons (pv 0) (pa_cons (pv 1) (pa_cons (pv 3) pa_nil))))))))
      (pss_one (ps_ret (pe_callTy call_tuple_of (by rfl) T.z_tuple (by decide +kernel) (pa_cons (pe_lc (own := [("truth", 4)]) (g := (gName 4)) (tt := tYes) rfl sc_LineTest_truths.nd (pi_list (pv 2)) (blkOk_by (N := N_LineTest_truths) (sc := C8.fnScope s_LineTest_truths) (by decide +kernel)) (fun _ _ _ _ _ => pg_name (i := 4) sc_LineTest_truths.nd rfl (Or.inl rfl)) (fun _ _ _ _ _ => pts_nil) (fun _ _ _ _ _ => (pe_cmpR op_ne (pv 4) (pe_fldK (K := K) rfl (pv 0) rfl) (nomark _)))) pa_nil))))), ?_⟩
  obtain ⟨a, la, p, n, ls, rfl, ⟨dx, ha⟩, op, hls, q⟩ := h
  have cl := A0.i.cl
  have l1 := hls.2.1
  refine ⟨fun σ' H' => ∃ L, σ' = [some (.ref a), some (.ref la), some (.ref L), none, none] ∧ H' L = some (.lst ((plTs p ls).map V.bl)) ∧ Same H H', ?_, ?_⟩
  · refine ⟨_, rfl, a, CL, dx, _, _, rfl, ha, cl, A0.a1, rfl, rfl, _, rfl, ?_⟩
    refine ifn (decide_eq_false fun z => op.nf (V.str.inj z)) ?_
    refine ⟨_, rfl, _, ls.length, rfl, ls_len hls, _, rfl, by omega, by omega, fun D hD => ?_⟩
    rw [show ((ls.length : Int)).toNat = ls.length from Int.toNat_natCast _]
    refine lc_range (lo := 0) (n := ls.length) (fun i H' => H' = upd H D (.lst (((List.range i).map (plT p ls)).map V.bl))) rfl ?_ ?_
    · rintro i H' hi rfl
      have sm : Same H (upd H D (.lst (((List.range i).map (plT p ls)).map V.bl))) := same_new (fun _ _ z => z) hD _
      refine ⟨rfl, ?_⟩
      dsimp only [tYes]
      rw [if_pos rfl]
      refine ⟨_, rfl, _, rfl, _, rfl, a, la, p, n, ls, i, congrArg (fun z => [V.ref a, V.ref la, V.int z]) (Int.zero_add _), ⟨dx, sm _ _ ha⟩, op, hls.ks (Ks.of sm), hi, ?_⟩
      refine ⟨_, upd_same, szL (by rw [List.length_map, List.length_map, List.length_range]; omega), ?_⟩
      rw [upd_upd, List.range_succ, List.map_append, List.map_append]
      rfl
    · rintro H' rfl
      exact ⟨D, rfl, upd_same, same_new (fun _ _ z => z) hD _⟩
  rintro σ' H1 ⟨L, rfl, hL, sm⟩
  refine ⟨_, rfl, L, rfl, ⟨_, SqL.of hL⟩, fun D hD => ?_⟩
  have nL := ne_of_none hL hD
  refine lc_list (K := K) (a := L) (xs := (plTs p ls).map V.bl) (fun i H' => H' = upd H1 D (.lst ((((plTs p ls).take i).map (· != n)).map V.bl))) rfl (fun i H' _ e => by rw [e]; exact SqL.of (by rw [upd_ne nL]; exact hL)) ?_ ?_
  · rintro i x H' hx rfl
    rw [List.getElem?_map] at hx
    cases hy : (plTs p ls)[i]? with
    | none => rw [hy] at hx; cases hx
    | some y =>
      rw [hy] at hx
      obtain rfl : V.bl y = x := Option.some.inj hx
      have sm' : Same H (upd H1 D (.lst ((((plTs p ls).take i).map (· != n)).map V.bl))) := same_new sm hD _
      refine ⟨rfl, ?_⟩
      dsimp only [tYes]
      rw [if_pos rfl]
      refine ⟨_, rfl, _, rfl, a, CL, dx, _, _, rfl, sm' _ _ ha, cl, A0.a5, rfl, rfl, ?_⟩
      have hi := (List.getElem?_eq_some_iff.mp hy).1
      rw [pl_len] at hi
      refine ⟨_, upd_same, szL (by rw [List.length_map, List.length_map, List.length_take]; omega), ?_⟩
      rw [upd_upd, List.take_add_one, hy, List.map_append, List.map_append, bne_bl]
      rfl
  · rintro H' rfl
    rw [List.length_map, List.take_length]
    refine ⟨D, _, rfl, .inl ⟨SqL.of upd_same, fun tp htp => ?_⟩⟩
    exact q _ tp (same_new (same_new sm hD _) htp _) upd_same

end
end Vf

set_option maxRecDepth 100000
set_option maxHeartbeats 4000000
namespace Vf
open PySem PySem.Spec PyProof.Rows L2 SX
section
variable {P : Program} {w : World} {K : PySem.W.Frag} {mg : Str → Option Value} {base : Heap}
theorem ok_truths {f : Addr} {fd : FuncData} {q : Str} {CL : Addr} (A0 : Ca K CL) (me : Meth K CL "truths" f) (F : C8.Fun K "truths" q s_LineTest_truths f fd) (b : Binds K fd ["self", "lines"] []) (T : Tx K w mg) (C_rangeTruths : C8.Cal P w K mg base 1 "range_truths" (sp_rangeTruths K) []) (C_LineTest_truths : C8.Met P w K mg base 2 CL "truths" (sp_LineTest_truthsP K CL) []) (C_plainTruth : C8.Cal P w K mg base 1 "plain_truth" (sp_plainTruth K CL) []) :
    C8.Met P w K mg base 3 CL "truths" (sp_LineTest_truths K CL) [] := by
  refine C8.met0 A0.i.cl me F b sc_LineTest_truths (fun vs H Q E h => ?_) (fun cdv A outer s H vs Q E hr h => ?_)
  · obtain ⟨a, la, t, ls, rfl, _⟩ := h; rfl
  have hu := hu_of hr
  refine ⟨_, (C8.pss_cut (ps_if (pt_cmpR op_eq (pe_fld (pv 0) rfl) pe_str (nomark _))
      (pss_one (ps_set (i := 2) sc_LineTest_truths.nd rfl (Or.inl rfl) (C8.pe_c C_rangeTruths hr (by decide) rfl (pa_cons (C8.pe_mt C_LineTest_truths hr (by decide) (pe_fld (pv 0) rfl) (pa_cons (pv 1) pa_nil)) (pa_cons (C8.pe_mt C_LineTest_truths hr (by decide) (pe_fld (pv 0) rfl) (pa_cons (pv 1) pa_nil)) pa_nil)))))
      (pss_one (ps_setLc (i := 2) (own := [("place", 3)]) (g := (gName 3)) (tt := tYes) rfl sc_LineTest_truths.nd rfl rfl (sw_true rfl rfl rfl (by decide +kernel)) (pi_range1 (by rfl) T.z_range (pa_cons (pe_callB call_len (by rfl) T.z_len PySem.boot_len (pa_cons (pv 1) pa_nil)) pa_nil)) (blkOk_by (N := N_LineTest_truths) (sc := C8.fnScope s_LineTest_truths) (by decide +kernel)) (fun _ _ _ _ _ => pg_name (i := 3) sc_LineTest_truths.nd rfl (Or.inl rfl)) (fun _ _ _ _ _ => pts_nil) (fun _ _ _ _ _ => (C8.pe_c C_plainTruth hr (by decide) rfl (pa_cons (pv 0) (pa_cons (pv 1) (pa_cons (pv 3) pa_nil))))))))
      (pss_one (ps_ret (pe_callTy call_tuple_of (by rfl) T.z_tuple (by decide +kernel) (pa_cons (pe_lc (own := [("truth", 4)]) (g := (gName 4)) (tt := tYes) rfl sc_LineTest_truths.nd (pi_list (pv 2)) (blkOk_by (N := N_LineTest_truths) (sc := C8.fnScope s_LineTest_truths) (by decide +kernel)) (fun _ _ _ _ _ => pg_name (i := 4) sc_LineTest_truths.nd rfl (Or.inl rfl)) (fun _ _ _ _ _ => pts_nil) (fun _ _ _ _ _ => (pe_cmpR op_ne (pv 4) (pe_fldK (K := K) rfl (pv 0) rfl) (nomark _)))) pa_nil))))), ?_⟩
  obtain ⟨a, la, t, ls, rfl, ta, ot, hls, q⟩ := h
  have cl := A0.i.cl
  have l1 := hls.2.1
  refine ⟨fun σ' H' => ∃ (L dx : Addr) (p : Pt) (u v v3 : V) (bs : List Bool), H a = some (.ins CL dx (tF p u v t.neg)) ∧ σ' = [some (.ref a), some (.ref la), some (.ref L), none, none] ∧ H' L = some (.lst (bs.map V.bl)) ∧ Same H H' ∧ bs.length ≤ 1000 ∧ bs.map (· != t.neg) = tT ls t, ?_, ?_⟩
  · match t, ta, ot with
    | .pl p n, ⟨dx, ha⟩, op =>
      refine ⟨_, rfl, a, CL, dx, _, _, rfl, ha, cl, A0.a1, rfl, rfl, _, rfl, ?_⟩
      refine ifn (decide_eq_false fun z => op.nf (V.str.inj z)) ?_
      refine ⟨_, rfl, _, ls.length, rfl, ls_len hls, _, rfl, by omega, by omega, fun D hD => ?_⟩
      rw [show ((ls.length : Int)).toNat = ls.length from Int.toNat_natCast _]
      refine lc_range (lo := 0) (n := ls.length) (fun i H' => H' = upd H D (.lst (((List.range i).map (plT p ls)).map V.bl))) rfl ?_ ?_
      · rintro i H' hi rfl
        have sm : Same H (upd H D (.lst (((List.range i).map (plT p ls)).map V.bl))) := same_new (fun _ _ z => z) hD _
        refine ⟨rfl, ?_⟩
        dsimp only [tYes]
        rw [if_pos rfl]
        refine ⟨_, rfl, _, rfl, _, rfl, a, la, p, n, ls, i, congrArg (fun z => [V.ref a, V.ref la, V.int z]) (Int.zero_add _), ⟨dx, sm _ _ ha⟩, op, hls.ks (Ks.of sm), hi, ?_⟩
        refine ⟨_, upd_same, szL (by rw [List.length_map, List.length_map, List.length_range]; omega), ?_⟩
        rw [upd_upd, List.range_succ, List.map_append, List.map_append]
        rfl
      · rintro H' rfl
        exact ⟨D, dx, p, _, _, .non, _, ha, rfl, upd_same, same_new (fun _ _ z => z) hD _, by rw [List.length_map, List.length_range]; exact l1, rfl⟩
    | .rg p p' n, ⟨dx, b1, b2, ha, h1, h2⟩, op =>
      obtain ⟨d1, e1⟩ := id h1
      refine ⟨_, rfl, a, CL, dx, _, _, rfl, ha, cl, A0.a1, rfl, rfl, _, rfl, ?_⟩
      refine ify (decide_eq_true rfl) ?_
      refine ⟨_, rfl, a, CL, dx, _, _, rfl, ha, cl, A0.a3, rfl, b1, d1, _, rfl, e1, rfl, _, rfl, b1, la, p, false, ls, rfl, h1, op.1, hls, fun H1 t1 s1 x1 => ?_⟩
      obtain ⟨d2, e2⟩ := id (h2.sm s1)
      refine ⟨_, rfl, a, CL, dx, _, _, rfl, s1 _ _ ha, cl, A0.a4, rfl, b2, d2, _, rfl, e2, rfl, _, rfl, b2, la, p', false, ls, rfl, h2.sm s1, op.2, hls.ks (Ks.of s1), fun H2 t2 s2 x2 => ?_⟩
      have nb : ∀ z : List Bool, z.map (· != false) = z := fun z => by
        induction z with
        | nil => rfl
        | cons y z ih => rw [List.map_cons, ih, Bool.bne_false]
      have y1 : H2 t1 = some (.tup ((plTs p ls).map V.bl)) := by
        have := s2 _ _ x1
        rw [this]
        exact congrArg (fun z => some (HO.tup (z.map V.bl))) (nb _)
      have y2 : H2 t2 = some (.tup ((plTs p' ls).map V.bl)) := by
        rw [x2]
        exact congrArg (fun z => some (HO.tup (z.map V.bl))) (nb _)
      refine ⟨t1, t2, _, _, rfl, y1, y2, by rw [pl_len, pl_len], by rw [pl_len]; exact l1, fun H3 L s3 hL => ?_⟩
      exact ⟨L, dx, _, _, _, .non, _, ha, rfl, hL, Same.trans s1 (Same.trans s2 s3), by rw [rg_len _ _ _ (by rw [pl_len, pl_len]), pl_len]; exact l1, rfl⟩
  rintro σ' H1 ⟨L, dx, p, u, v, v3, bs, ha, rfl, hL, sm, hz, eT⟩
  refine ⟨_, rfl, L, rfl, ⟨_, SqL.of hL⟩, fun D hD => ?_⟩
  have nL := ne_of_none hL hD
  refine lc_list (K := K) (a := L) (xs := bs.map V.bl) (fun i H' => H' = upd H1 D (.lst (((bs.take i).map (· != t.neg)).map V.bl))) rfl (fun i H' _ e => by rw [e]; exact SqL.of (by rw [upd_ne nL]; exact hL)) ?_ ?_
  · rintro i x H' hx rfl
    rw [List.getElem?_map] at hx
    cases hy : bs[i]? with
    | none => rw [hy] at hx; cases hx
    | some y =>
      rw [hy] at hx
      obtain rfl : V.bl y = x := Option.some.inj hx
      have sm' : Same H (upd H1 D (.lst (((bs.take i).map (· != t.neg)).map V.bl))) := same_new sm hD _
      refine ⟨rfl, ?_⟩
      dsimp only [tYes]
      rw [if_pos rfl]
      refine ⟨_, rfl, _, rfl, a, CL, dx, _, _, rfl, sm' _ _ ha, cl, A0.a5, rfl, rfl, ?_⟩
      have hi := (List.getElem?_eq_some_iff.mp hy).1
      refine ⟨_, upd_same, szL (by rw [List.length_map, List.length_map, List.length_take]; omega), ?_⟩
      rw [upd_upd, List.take_add_one, hy, List.map_append, List.map_append, bne_bl]
      rfl
  · rintro H' rfl
    rw [List.length_map, List.take_length]
    refine ⟨D, _, rfl, .inl ⟨SqL.of upd_same, fun tp htp => ?_⟩⟩
    exact q _ tp (same_new (same_new sm hD _) htp _) (by rw [upd_same, eT])

end
end Vf

set_option maxRecDepth 100000
set_option maxHeartbeats 4000000
namespace Vf
open PySem PySem.Spec PyProof.Rows L2 SX
section
variable {P : Program} {w : World} {K : PySem.W.Frag} {mg : Str → Option Value} {base : Heap}
theorem ok_plainTest {f : Addr} {fd : FuncData} (F : C8.Def K mg "plain_test" s_plainTest f fd) (b : Binds K fd ["word", "argument"] []) (T : Tx K w mg) {CBadWord CBadNumber CW : Addr} (ES : Es P w K mg base CBadWord CBadNumber CW) {CL : Addr} (CO : Co P w K mg base CL) (C_isLineWord : C8.Cal P w K mg base 3 "is_line_word" (sp_isLineWord K) []) (C_isWithin : C8.Cal P w K mg base 2 "is_within" (sp_isWithin K) []) : CalX P w K mg base 4 "plain_test" (sp_plainTest K CL CBadWord CBadNumber) := by
  refine calX F b sc_plainTest (fun vs H Q E h => ?_) (fun cdv A outer s H vs Q E hr h => ?_)
  · obtain ⟨x, g, o, rfl, _⟩ := h; rfl
  have hu := hu_of hr
  refine ⟨_, (C8.pss_cut (ps_if (PW.pt (pw_or (pt_not (pt_val (pe_callB call_isi (by rfl) T.z_isinstance (by decide +kernel) (pa_cons (pv 0) (pa_cons (pe_bltn (v := .ty "str") (by rfl) T.z_str (by decide +kernel) rfl) pa_nil))))) (pw_or1 (pt_cmpR op_notIn_seq (pv 0) (pe_tup (StX.pa_star (C8.pe_gc rfl (Classical.choose_spec T.g_WORD_TESTS).1) (StX.pa_star (C8.pe_gc rfl (Classical.choose_spec T.g_NUMBER_TESTS).1) (StX.pa_star (C8.pe_gc rfl (Classical.choose_spec T.g_BARE_TESTS).1) pa_nil)))) rfl))))
      (pss_one (ps_rx ES.r_BadWord hr (by decide) rfl rfl (takes_of rfl rfl rfl rfl) (pa_cons pe_str pa_nil)))
      pss_nil)
      (C8.pss_cut (ps_if (PW.pt (pw_and (pt_cmpR op_in_seq (pv 0) (C8.pe_gc rfl (Classical.choose_spec T.g_WORD_TESTS).1) rfl) (pw_and1 (pt_not (pt_val (C8.pe_c C_isLineWord hr (by decide) rfl (pa_cons (pv 1) pa_nil)))))))
      (pss_one (ps_rx ES.r_BadWord hr (by decide) rfl rfl (takes_of rfl rfl rfl rfl) (pa_cons pe_str pa_nil)))
      pss_nil)
      (C8.pss_cut (ps_if (PW.pt (pw_and (pt_cmpR op_in_seq (pv 0) (C8.pe_gc rfl (Classical.choose_spec T.g_NUMBER_TESTS).1) rfl) (pw_and1 (pt_not (pt_val (C8.pe_c C_isWithin hr (by decide) rfl (pa_cons (pv 1) (pa_cons (pe_kix (K := K) (w := w) rfl rfl (C8.pe_gc rfl (Classical.choose_spec T.g_BOUNDS).1) (pv 0) (fun _ _ => rfl)) pa_nil))))))))
      (pss_one (ps_rx ES.r_BadNumber hr (by decide) rfl rfl (takes_of rfl rfl rfl rfl) (pa_cons (pv 0) (pa_cons (pv 1) pa_nil))))
      pss_nil)
      (C8.pss_cut (ps_if (PW.pt (pw_and (pt_cmpR op_in_seq (pv 0) (C8.pe_gc rfl (Classical.choose_spec T.g_BARE_TESTS).1) rfl) (pw_and1 (pt_cmpR op_notN (pv 1) pe_non (nomark _)))))
      (pss_one (ps_rx ES.r_BadWord hr (by decide) rfl rfl (takes_of rfl rfl rfl rfl) (pa_cons pe_str pa_nil)))
      pss_nil)
      (pss_one (ps_ret (C8.pe_mk CO.m_LineTest hr (by decide) rfl (pa_cons (pv 0) (pa_cons (pv 1) (pa_cons (pe_tup (pa_cons pe_non (pa_cons pe_non pa_nil))) (pa_cons pe_bl pa_nil))))))))))), ?_⟩

  obtain ⟨x, g, o, rfl, hp, qo, qe⟩ := h
  have W4 := (Classical.choose_spec T.g_WORD_TESTS).2
  have W2 := (Classical.choose_spec T.g_NUMBER_TESTS).2
  have WB := (Classical.choose_spec T.g_BARE_TESTS).2
  refine ⟨fun σ' H' => ∃ k, x = .str k ∧ inV (.str k) l8 = true ∧ σ' = [some x, some g] ∧ Same H H', ?_, ?_⟩
  · rcases pt_one hp with ⟨⟨t, ty, e⟩, ho⟩ | ⟨k, rfl, h8, ho⟩ | ⟨k, rfl, h8⟩
    · refine ⟨_, rfl, _, _, _, _, false, rfl, .ty "str", ty, e, false, rfl, ?_⟩
      refine ify rfl (ifT ?_)
      exact ⟨rfl, fun d H2 hd ex sm => qe _ ho d H2 sm ex⟩
    · refine ⟨_, rfl, _, _, _, _, true, rfl, .ty "str", .base (.str _), kit_ty (by decide +kernel), true, rfl, ?_⟩
      refine ifn rfl ?_
      refine ⟨_, rfl, _, _, rfl, .inl (W4 H), _, _, rfl, .inl (W2 H), _, _, rfl, .inl (WB H), szB (by decide), fun tp htp => ?_⟩
      refine ⟨tp, l8, rfl, .inr (SqT.of upd_same), rfl, by decide, _, rfl, ?_⟩
      rw [h8]
      refine ify rfl ?_
      exact ⟨rfl, fun d H2 hd ex sm => qe _ ho d H2 (Same.trans (same_new (fun _ _ z => z) htp _) sm) ex⟩
    · refine ⟨_, rfl, _, _, _, _, true, rfl, .ty "str", .base (.str _), kit_ty (by decide +kernel), true, rfl, ?_⟩
      refine ifn rfl ?_
      refine ⟨_, rfl, _, _, rfl, .inl (W4 H), _, _, rfl, .inl (W2 H), _, _, rfl, .inl (WB H), szB (by decide), fun tp htp => ?_⟩
      refine ⟨tp, l8, rfl, .inr (SqT.of upd_same), rfl, by decide, _, rfl, ?_⟩
      rw [h8]
      refine ifn rfl ?_
      exact ⟨k, rfl, h8, rfl, same_new (fun _ _ z => z) htp _⟩
  rintro σ' H1 ⟨k, rfl, h8, rfl, s1⟩
  have two := pt_two hp h8
  refine ⟨fun σ' H' => σ' = [some (.str k), some g] ∧ Same H H' ∧ (inV (.str k) l4 = true → o = none), ?_, ?_⟩
  · rcases two with ⟨c1, _, _, z⟩ | ⟨c1, _, _, _⟩ | ⟨c1, _, _, _⟩
    · refine ⟨_, rfl, _, l4, rfl, .inr (W4 H1), rfl, by decide, _, rfl, ?_⟩
      rw [c1]
      refine ify rfl ?_
      rcases z with ⟨hb, ho⟩ | ⟨⟨l, rfl, hl, hw⟩, ho⟩
      · rcases hb with hb | ⟨l, rfl, hl, hw⟩
        · refine ⟨_, rfl, _, rfl, .inr ⟨hb.sm s1, false, rfl, ?_⟩⟩
          refine ify rfl ?_
          exact ⟨rfl, fun d H2 hd ex sm => qe _ ho d H2 (Same.trans s1 sm) ex⟩
        · refine ⟨_, rfl, _, rfl, .inl ⟨l, rfl, hl, fun H2 s2 => ⟨_, rfl, ?_⟩⟩⟩
          rw [hw]
          refine ify rfl ?_
          exact ⟨rfl, fun d H3 hd ex sm => qe _ ho d H3 (Same.trans s1 (Same.trans s2 sm)) ex⟩
      · refine ⟨_, rfl, _, rfl, .inl ⟨l, rfl, hl, fun H2 s2 => ⟨_, rfl, ?_⟩⟩⟩
        rw [hw]
        refine ifn rfl ?_
        exact ⟨rfl, Same.trans s1 s2, fun _ => ho⟩
    · refine ⟨_, rfl, _, l4, rfl, .inr (W4 H1), rfl, by decide, _, rfl, ?_⟩
      rw [c1]
      exact ifn rfl (ifF ⟨rfl, s1, fun z => nomatch z⟩)
    · refine ⟨_, rfl, _, l4, rfl, .inr (W4 H1), rfl, by decide, _, rfl, ?_⟩
      rw [c1]
      exact ifn rfl (ifF ⟨rfl, s1, fun z => nomatch z⟩)
  rintro σ' H2 ⟨rfl, s2, o4⟩
  refine ⟨fun σ' H' => σ' = [some (.str k), some g] ∧ Same H H' ∧ (inV (.str k) lB = false → o = none), ?_, ?_⟩
  · rcases two with ⟨c1, c2, c3, _⟩ | ⟨c1, c2, c3, lo, hi, hk, z⟩ | ⟨c1, c2, c3, _⟩
    · refine ⟨_, rfl, _, l2, rfl, .inr (W2 H2), rfl, by decide, _, rfl, ?_⟩
      rw [c2]
      exact ifn rfl (ifF ⟨rfl, s2, fun _ => o4 c1⟩)
    · refine ⟨_, rfl, _, l2, rfl, .inr (W2 H2), rfl, by decide, _, rfl, ?_⟩
      rw [c2]
      refine ify rfl ?_
      obtain ⟨ba, bb, kd, qa, qb⟩ := (Classical.choose_spec T.g_BOUNDS).2
      obtain ⟨aa, ha, qq⟩ : ∃ aa : Addr, (fun z => if z = ("short" : Str) then some (V.ref ba) else if z = ("number" : Str) then some (V.ref bb) else none) k = some (.ref aa) ∧ ∀ H : Hp, SqT K H aa [.int lo, .int hi] := by
        rcases hk with ⟨rfl, rfl, rfl⟩ | ⟨rfl, rfl, rfl⟩
        · exact ⟨ba, if_pos rfl, qa⟩
        · exact ⟨bb, (if_neg (by decide)).trans (if_pos rfl), qb⟩
      rcases z with ⟨hb, ho⟩ | ⟨⟨i, rfl, h1, h2⟩, ho⟩
      · rcases hb with hb | ⟨i, rfl, hb⟩
        · refine ⟨_, rfl, _, _, rfl, kd, _, rfl, k, _, rfl, ha, _, aa, lo, hi, rfl, qq H2, .inl ⟨hb.sm s2, false, rfl, ?_⟩⟩
          refine ify rfl ?_
          exact ⟨_, rfl, _, rfl, rfl, fun d H3 hd ex sm => qe _ ho d H3 (Same.trans s2 sm) ex⟩
        · refine ⟨_, rfl, _, _, rfl, kd, _, rfl, k, _, rfl, ha, _, aa, lo, hi, rfl, qq H2, .inr ⟨i, rfl, _, rfl, ?_⟩⟩
          have e : (decide (lo ≤ i) && decide (i ≤ hi)) = false := by
            rcases hb with hb | hb
            · rw [decide_eq_false (by omega : ¬ lo ≤ i), Bool.false_and]
            · rw [decide_eq_false (by omega : ¬ i ≤ hi), Bool.and_false]
          rw [e]
          refine ify rfl ?_
          exact ⟨_, rfl, _, rfl, rfl, fun d H3 hd ex sm => qe _ ho d H3 (Same.trans s2 sm) ex⟩
      · refine ⟨_, rfl, _, _, rfl, kd, _, rfl, k, _, rfl, ha, _, aa, lo, hi, rfl, qq H2, .inr ⟨i, rfl, _, rfl, ?_⟩⟩
        rw [decide_eq_true h1, decide_eq_true h2]
        refine ifn rfl ?_
        exact ⟨rfl, s2, fun _ => ho⟩
    · refine ⟨_, rfl, _, l2, rfl, .inr (W2 H2), rfl, by decide, _, rfl, ?_⟩
      rw [c2]
      exact ifn rfl (ifF ⟨rfl, s2, fun z => nomatch (c3.symm.trans z)⟩)
  rintro σ' H3 ⟨rfl, s3, o2⟩
  refine ⟨fun σ' H' => σ' = [some (.str k), some g] ∧ Same H H' ∧ o = none, ?_, ?_⟩
  · rcases two with ⟨c1, c2, c3, _⟩ | ⟨c1, c2, c3, _⟩ | ⟨c1, c2, c3, z⟩
    · refine ⟨_, rfl, _, lB, rfl, .inr (WB H3), rfl, by decide, _, rfl, ?_⟩
      rw [c3]
      exact ifn rfl (ifF ⟨rfl, s3, o2 c3⟩)
    · refine ⟨_, rfl, _, lB, rfl, .inr (WB H3), rfl, by decide, _, rfl, ?_⟩
      rw [c3]
      exact ifn rfl (ifF ⟨rfl, s3, o2 c3⟩)
    · refine ⟨_, rfl, _, lB, rfl, .inr (WB H3), rfl, by decide, _, rfl, ?_⟩
      rw [c3]
      refine ify rfl ?_
      rcases z with ⟨hg, ho⟩ | ⟨rfl, ho⟩
      · refine ⟨_, rfl, rfl, _, rfl, ?_⟩
        rw [decide_eq_false hg]
        refine ify rfl ?_
        exact ⟨rfl, fun d H4 hd ex sm => qe _ ho d H4 (Same.trans s3 sm) ex⟩
      · exact ⟨_, rfl, rfl, _, rfl, ifn rfl ⟨rfl, s3, ho⟩⟩
  rintro σ' H4 ⟨rfl, s4, ho⟩
  refine ⟨_, rfl, _, rfl, sz_2, fun pa hpa a dx h1 h2 ne => ?_⟩
  have ne1 : pa ≠ dx := ne_of_none upd_same h2
  have ne2 : pa ≠ a := ne_of_none upd_same h1
  refine ⟨a, dx, pa, k, g, .non, .non, false, rfl, upd_same, by rw [upd_ne ne2, upd_ne ne1]; exact upd_same, rfl, ?_⟩
  exact qo ho _ a k rfl (made_same (same_new s4 hpa _) h1 h2) ⟨dx, upd_same⟩

end
end Vf

set_option maxRecDepth 100000
set_option maxHeartbeats 4000000
namespace Vf
open PySem PySem.Spec PyProof.Rows L2 SX
section
variable {P : Program} {w : World} {K : PySem.W.Frag} {mg : Str → Option Value} {base : Heap}
theorem NoPl.sm {K : PySem.W.Frag} {CL : Addr} {H H' : Hp} {x : V} (h : NoPl K CL H x) (s : Same H H') : NoPl K CL H' x := h.elim (fun ⟨t, a, b⟩ => .inl ⟨t, tyx_sm s a, b⟩) fun ⟨a, dx, p, u, v, n, e, h, z⟩ => .inr ⟨a, dx, p, u, v, n, e, s _ _ h, z⟩
theorem ok_rangeTest {f : Addr} {fd : FuncData} (F : C8.Def K mg "range_test" s_rangeTest f fd) (b : Binds K fd ["first", "second"] []) (T : Tx K w mg) {CBadWord CBadNumber CW : Addr} (ES : Es P w K mg base CBadWord CBadNumber CW) {CL : Addr} (CO : Co P w K mg base CL) (C_isPlain : C8.Cal P w K mg base 1 "is_plain" (sp_isPlain K CL) []) : CalX P w K mg base 3 "range_test" (sp_rangeTest K CL CBadWord CBadNumber) := by
  refine calX F b sc_rangeTest (fun vs H Q E h => ?_) (fun cdv A outer s H vs Q E hr h => ?_)
  · obtain ⟨x, y, rfl, _⟩ := h; rfl
  have hu := hu_of hr
  refine ⟨_, (pss_cons (ps_if (pt_not (pt_val (C8.pe_c C_isPlain hr (by decide) rfl (pa_cons (pv 0) pa_nil))))
      (pss_one (ps_rx ES.r_BadWord hr (by decide) rfl rfl (takes_of rfl rfl rfl rfl) (pa_cons pe_str pa_nil)))
      pss_nil)
      (pss_cons (ps_if (pt_not (pt_val (C8.pe_c C_isPlain hr (by decide) rfl (pa_cons (pv 1) pa_nil))))
      (pss_one (ps_rx ES.r_BadWord hr (by decide) rfl rfl (takes_of rfl rfl rfl rfl) (pa_cons pe_str pa_nil)))
      pss_nil)
      (pss_one (ps_ret (C8.pe_mk CO.m_LineTest hr (by decide) rfl (pa_cons pe_str (pa_cons pe_non (pa_cons (pe_tup (pa_cons (pv 0) (pa_cons (pv 1) pa_nil))) (pa_cons pe_bl pa_nil))))))))), ?_⟩

  obtain ⟨x, y, rfl, h⟩ := h
  rcases h with ⟨hn, he⟩ | ⟨a, dx, p, u, v, rfl, ha, hp, h⟩
  · refine ⟨_, rfl, x, rfl, .inl ⟨hn, false, rfl, ify rfl ?_⟩⟩
    exact ⟨rfl, fun d H2 hd ex sm => he d H2 sm ex⟩
  · refine ⟨_, rfl, _, rfl, .inr ⟨a, dx, p, u, v, rfl, ha, hp, true, rfl, ifn rfl ?_⟩⟩
    rcases h with ⟨hn, he⟩ | ⟨b, dy, p', u', v', rfl, hb, hp', q⟩
    · refine ⟨_, rfl, y, rfl, .inl ⟨hn, false, rfl, ify rfl ?_⟩⟩
      exact ⟨rfl, fun d H2 hd ex sm => he d H2 sm ex⟩
    · refine ⟨_, rfl, _, rfl, .inr ⟨b, dy, p', u', v', rfl, hb, hp', true, rfl, ifn rfl ?_⟩⟩
      refine ⟨_, rfl, _, rfl, sz_2, fun pa hpa c dz h1 h2 ne => ?_⟩
      have ne1 : pa ≠ dz := ne_of_none upd_same h2
      have ne2 : pa ≠ c := ne_of_none upd_same h1
      refine ⟨c, dz, pa, _, _, _, _, false, rfl, upd_same, by rw [upd_ne ne2, upd_ne ne1]; exact upd_same, rfl, ?_⟩
      exact q _ c dz (made_same (same_new (fun _ _ z => z) hpa _) h1 h2) upd_same

end
end Vf

set_option maxRecDepth 100000
set_option maxHeartbeats 4000000
namespace Vf
open PySem PySem.Spec PyProof.Rows L2 SX
section
variable {P : Program} {w : World} {K : PySem.W.Frag} {mg : Str → Option Value} {base : Heap}
theorem ok_otherTest {f : Addr} {fd : FuncData} (F : C8.Def K mg "other_test" s_otherTest f fd) (b : Binds K fd ["test"] []) (T : Tx K w mg) {CBadWord CBadNumber CW : Addr} (ES : Es P w K mg base CBadWord CBadNumber CW) {CL : Addr} (CO : Co P w K mg base CL) (A0 : Ca K CL)  : CalX P w K mg base 3 "other_test" (sp_otherTest K CL CBadWord CBadNumber) := by
  refine calX F b sc_otherTest (fun vs H Q E h => ?_) (fun cdv A outer s H vs Q E hr h => ?_)
  · obtain ⟨x, rfl, _⟩ := h; rfl
  have hu := hu_of hr
  refine ⟨_, (C8.pss_cut (ps_if (PW.pt (pw_or (pt_not (pt_val (pe_callB call_isi (by rfl) T.z_isinstance (by decide +kernel) (pa_cons (pv 0) (pa_cons (pe_cls (CO.g_LineTest) rfl) pa_nil))))) (pw_or1 (pt_val (pe_fld (pv 0) rfl)))))
      (pss_one (ps_rx ES.r_BadWord hr (by decide) rfl rfl (takes_of rfl rfl rfl rfl) (pa_cons pe_str pa_nil)))
      pss_nil)
      (pss_one (ps_ret (C8.pe_mk CO.m_LineTest hr (by decide) rfl (pa_cons (pe_fld (pv 0) rfl) (pa_cons (pe_fld (pv 0) rfl) (pa_cons (pe_tup (pa_cons (pe_fld (pv 0) rfl) (pa_cons (pe_fld (pv 0) rfl) pa_nil))) (pa_cons pe_bl pa_nil)))))))), ?_⟩

  obtain ⟨x, rfl, h⟩ := h
  have cl := A0.i.cl
  rcases h with ⟨hb, he⟩ | ⟨a, dx, p, u, v, rfl, ha, q⟩
  · refine ⟨fun _ _ => False, ?_, fun _ _ z => z.elim⟩
    rcases hb with ⟨t, ty, e⟩ | ⟨a, dx, p, u, v, rfl, ha⟩
    · refine ⟨_, rfl, _, _, _, _, false, rfl, .own CL, ty, e, false, rfl, ify rfl (ifT ?_)⟩
      exact ⟨rfl, fun d H2 hd ex sm => he d H2 sm ex⟩
    · refine ⟨_, rfl, _, _, _, _, true, rfl, .own CL, .base (TyOf.ins ha cl A0.i.ha A0.i.hn A0.i.htk A0.i.hm), A0.i.me, true, rfl, ifn rfl ?_⟩
      refine ⟨_, rfl, a, CL, dx, _, _, rfl, ha, cl, A0.a5, rfl, true, rfl, ify rfl ?_⟩
      exact ⟨rfl, fun d H2 hd ex sm => he d H2 sm ex⟩
  · refine ⟨fun σ' H' => σ' = [some (.ref a)] ∧ H' = H, ?_, ?_⟩
    · refine ⟨_, rfl, _, _, _, _, true, rfl, .own CL, .base (TyOf.ins ha cl A0.i.ha A0.i.hn A0.i.htk A0.i.hm), A0.i.me, true, rfl, ifn rfl ?_⟩
      exact ⟨_, rfl, a, CL, dx, _, _, rfl, ha, cl, A0.a5, rfl, false, rfl, ifn rfl ⟨rfl, rfl⟩⟩
    rintro σ' H' ⟨rfl, rfl⟩
    refine ⟨_, rfl, a, CL, dx, _, _, rfl, ha, cl, A0.a1, rfl, _, rfl, a, CL, dx, _, _, rfl, ha, cl, A0.a2, rfl, _, rfl, a, CL, dx, _, _, rfl, ha, cl, A0.a3, rfl, _, rfl, a, CL, dx, _, _, rfl, ha, cl, A0.a4, rfl, sz_2, fun pa hpa c dz h1 h2 ne => ?_⟩
    have ne1 : pa ≠ dz := ne_of_none upd_same h2
    have ne2 : pa ≠ c := ne_of_none upd_same h1
    refine ⟨c, dz, pa, _, _, _, _, true, rfl, upd_same, by rw [upd_ne ne2, upd_ne ne1]; exact upd_same, rfl, ?_⟩
    exact q _ c dz (made_same (same_new (fun _ _ z => z) hpa _) h1 h2) upd_same

end
end Vf

set_option maxRecDepth 100000
set_option maxHeartbeats 4000000
namespace Vf
open PySem PySem.Spec PyProof.Rows L2 SX
section
variable {P : Program} {w : World} {K : PySem.W.Frag} {mg : Str → Option Value} {base : Heap}
theorem ok_pen {f : Addr} {fd : FuncData} (F : C8.Def K mg "_law_pen" s_pen f fd) (b : Binds K fd ["_law_script"] []) (T : Tx K w mg)  : C8.Cal P w K mg base 1 "_law_pen" (sp_pen K) [] := by
  refine C8.cal0 F b .nil sc_pen (fun vs H Q E h => ?_) (fun cdv A outer s H vs Q E hr h => ?_)
  · obtain ⟨a, ns, rfl, _⟩ := h; rfl
  have hu := hu_of hr
  refine ⟨_, (pss_cons (ps_set (i := 1) sc_pen.nd rfl (Or.inl rfl) pe_int)
      (pss_cons (ps_for PassesOwn.never rfl (pi_list (pv 0)) (pg_name (i := 2) sc_pen.nd rfl (Or.inl rfl))
      (pss_one (ps_set (i := 1) sc_pen.nd rfl (Or.inl rfl) (pe_op op_mod (pe_callTy call_int1 (by rfl) T.z_int (by decide +kernel) (pa_cons (pe_op op_add (pe_op op_mul (pv 1) pe_int) (pv 2)) pa_nil)) pe_int))))
      (pss_one (ps_ret (pe_disp (pps_cons pe_str (pe_callTy call_list_of (by rfl) T.z_list (by decide +kernel) (pa_cons (pv 0) pa_nil)) (pps_cons pe_str pe_int (pps_cons pe_str pe_int (pps_cons pe_str pe_int (pps_cons pe_str (pv 1) pps_nil))))) (by rfl) (by rfl) (fun z => by cases z) (by decide)))))), ?_⟩

  obtain ⟨a, ns, rfl, hS, hl, q⟩ := h
  refine ⟨_, rfl, a, rfl, ⟨_, hS⟩, for_list (K := K) (a := a) (xs := ns.map V.int) (fun i σ H2 => ∃ (f : Int) (v : Option V), σ = [some (.ref a), some (.int f), v] ∧ H2 = H ∧ 0 ≤ f ∧ f < 1000000007)
    ⟨0, none, rfl, rfl, by decide, by decide⟩ (fun i σ H2 _ ⟨_, _, _, e, _⟩ => by rw [e]; exact hS) ?_ ?_⟩
  · rintro i y σ H2 hi ⟨fo, v, rfl, rfl, h0, h1⟩
    obtain ⟨z, rfl⟩ : ∃ z, y = V.int z := by
      rw [List.getElem?_map] at hi
      cases e : ns[i]? with
      | none => rw [e] at hi; cases hi
      | some z => rw [e] at hi; exact ⟨z, (Option.some.inj hi).symm⟩
    refine ⟨_, rfl, _, _, rfl, rfl, .inl ⟨by omega, by omega⟩, _, rfl, _, _, rfl, rfl, .inl ⟨_, rfl, _, _, rfl, rfl, (by decide : (0 : Int) < 1000000007), ?_⟩⟩
    exact ⟨_, _, rfl, rfl, Int.emod_nonneg _ (by decide), Int.emod_lt_of_pos _ (by decide)⟩
  · rintro σ H2 ⟨fo, v, rfl, rfl, h0, h1⟩
    intro p np
    refine ⟨_, rfl, a, _, rfl, .inl ((Ks.new1 np _).seq hS), fun c nc => ?_⟩
    have hcp : c ≠ p := fun e => by rw [e, upd_same] at nc; cases nc
    refine ⟨_, rfl, by rw [upd_ne hcp.symm, upd_same], [(.inr "cells", .ref c), (.inr "at", .int 0), (.inr "digits", .int 0), (.inr "count", .int 0), (.inr "fold", .int fo)], rfl, (by show 5 ≤ 15; decide), ?_⟩
    have nc0 : H2 c = none := by rw [upd_ne hcp] at nc; exact nc
    refine q _ p c (((Ks.new1 np _).upd nc0 _).upd np _) ⟨ns, 0, 0, 0, fo, Eq.trans upd_same rfl, ?_, hl, by decide, by decide, by decide, by decide, h0, by omega⟩
    rw [upd_ne hcp, upd_same]

end
end Vf

set_option maxRecDepth 100000
set_option maxHeartbeats 4000000
namespace Vf
open PySem PySem.Spec PyProof.Rows L2 SX
section
variable {P : Program} {w : World} {K : PySem.W.Frag} {mg : Str → Option Value} {base : Heap}
theorem ok_draw {f : Addr} {fd : FuncData} (F : C8.Def K mg "_law_draw" s_draw f fd) (b : Binds K fd ["_law_pen_here", "_law_many"] []) (T : Tx K w mg)  : C8.Cal P w K mg base 1 "_law_draw" sp_draw [] := by
  refine C8.cal0 F b .nil sc_draw (fun vs H Q E h => ?_) (fun cdv A outer s H vs Q E hr h => ?_)
  · obtain ⟨p, c, m, n, rfl, _⟩ := h; rfl
  have hu := hu_of hr
  refine ⟨_, (pss_cons (ps_dput hu (pv 0) pe_str (pe_op op_add (pe_dget hu (pv 0) pe_str (fun _ _ => rfl)) pe_int) rfl)
      (C8.pss_cut (ps_if (PW.pt (pw_and (pt_cmpR op_eq (pe_dget hu (pv 0) pe_str (fun _ _ => rfl)) pe_int (nomark _)) (pw_and1 (pt_cmpR op_lt (pe_dget hu (pv 0) pe_str (fun _ _ => rfl)) (pe_callB call_len (by rfl) T.z_len PySem.boot_len (pa_cons (pe_dget hu (pv 0) pe_str (fun _ _ => rfl)) pa_nil)) (nomark _)))))
      (pss_cons (ps_set (i := 2) sc_draw.nd rfl (Or.inl rfl) (pe_ix ix_list (pe_dget hu (pv 0) pe_str (fun _ _ => rfl)) (pe_dget hu (pv 0) pe_str (fun _ _ => rfl)) (fun _ _ => rfl)))
      (pss_cons (ps_dput hu (pv 0) pe_str (pe_op op_add (pe_dget hu (pv 0) pe_str (fun _ _ => rfl)) pe_int) rfl)
      (pss_one (ps_if (pt_cmpR op_ge (pv 2) (pe_op op_pow pe_int pe_int) (nomark _))
      (pss_one (ps_dput hu (pv 0) pe_str (pe_op op_sub (pv 2) (pe_op op_pow pe_int pe_int)) rfl))
      (pss_one (ps_dput hu (pv 0) pe_str (pe_op op_mod (pe_callTy call_int1 (by rfl) T.z_int (by decide +kernel) (pa_cons (pe_op op_add (pe_op op_mul (pe_dget hu (pv 0) pe_str (fun _ _ => rfl)) pe_int) (pv 2)) pa_nil)) pe_int) rfl))))))
      pss_nil)
      (pss_cons (ps_if (pt_cmpR op_gt (pe_dget hu (pv 0) pe_str (fun _ _ => rfl)) pe_int (nomark _))
      (pss_cons (ps_set (i := 3) sc_draw.nd rfl (Or.inl rfl) (pe_op op_mod (pe_callTy call_int1 (by rfl) T.z_int (by decide +kernel) (pa_cons (pe_dget hu (pv 0) pe_str (fun _ _ => rfl)) pa_nil)) (pv 1)))
      (pss_cons (ps_dput hu (pv 0) pe_str (pe_op op_fdiv (pe_dget hu (pv 0) pe_str (fun _ _ => rfl)) (pv 1)) rfl)
      (pss_one (ps_ret (pv 3)))))
      pss_nil)
      (pss_cons (ps_set (i := 4) sc_draw.nd rfl (Or.inl rfl) (pe_op op_add (pe_op op_add (pe_dget hu (pv 0) pe_str (fun _ _ => rfl)) (pe_op op_mul (pe_dget hu (pv 0) pe_str (fun _ _ => rfl)) pe_int)) pe_int))
      (pss_one (ps_ret (pe_op op_mod (pe_op op_fdiv (pe_callTy call_int1 (by rfl) T.z_int (by decide +kernel) (pa_cons (pe_op op_mod (pe_op op_pow (pv 4) pe_int) pe_int) pa_nil)) pe_int) (pv 1)))))))), ?_⟩

  obtain ⟨p, c, m, n, rfl, ⟨ns, a, d, t, fo, hp, hc, hl, ha, hd, ht, htm, hf0, hf1⟩, hm, hn1, hn2, q⟩ := h
  have hpc : c ≠ p := ne_of hc hp (by intro z; cases z)
  have nx : ∀ o, (upd H p o) c = some (.lst (ns.map V.int)) := fun o => by rw [upd_ne hpc]; exact hc
  have lns : (ns.map V.int).length = ns.length := List.length_map _
  -- count
  refine ⟨_, rfl, p, _, rfl, pg_count hp, _, _, rfl, rfl, _, rfl, p, _, rfl, pp_count hp, ?_⟩
  have h1 : (upd H p (.dK (pk c a d (t + 1) fo))) p = some (.dK (pk c a d (t + 1) fo)) := upd_same
  -- the cell
  refine ⟨fun σ' H' => ∃ (v2 : Option V) (a' d' f' : Int), σ' = [some (.ref p), some (.int (n : Int)), v2, none, none] ∧ H' = upd H p (.dK (pk c a' d' (t + 1) f')) ∧ 0 ≤ a' ∧ 0 ≤ d' ∧ 0 ≤ f' ∧ f' < 2147483648, ?_, ?_⟩
  · refine ⟨_, rfl, p, _, rfl, pg_digits h1, rfl, _, rfl, ?_⟩
    refine ite2 (fun e0 => ?_) (fun _ => ?_)
    · refine ⟨_, rfl, p, _, rfl, pg_at h1, _, rfl, p, _, rfl, pg_cells h1, _, _, rfl, .inl ⟨_, SqL.of (nx _), rfl⟩, _, _, rfl, rfl, _, rfl, ?_⟩
      refine ite2 (fun e1 => ?_) (fun _ => ?_)
      · have e1' : a < (((ns.map V.int).length : Nat) : Int) := of_decide_eq_true e1
        rw [lns] at e1'
        have hk : a.toNat < ns.length := by omega
        have ek : a = ((a.toNat : Nat) : Int) := by omega
        have g : (ns.map V.int)[a.toNat]? = some (.int ns[a.toNat]) := by
          rw [List.getElem?_map, List.getElem?_eq_getElem hk]; rfl
        refine ⟨_, rfl, p, _, rfl, pg_cells h1, _, rfl, p, _, rfl, pg_at h1, c, _, a, _, rfl, rfl, SqL.of (nx _), at_of ek g, ?_⟩
        refine ⟨_, rfl, p, _, rfl, pg_at h1, _, _, rfl, rfl, _, rfl, p, _, rfl, pp_at h1, ?_⟩
        rw [upd_upd]
        have h2 : (upd H p (.dK (pk c (a + 1) d (t + 1) fo))) p = some (.dK (pk c (a + 1) d (t + 1) fo)) := upd_same
        refine ⟨_, rfl, _, _, rfl, rfl, ⟨by decide, by decide, by decide⟩, _, _, rfl, rfl, _, rfl, ?_⟩
        refine ite2 (fun e2 => ?_) (fun _ => ?_)
        · have e2' : (10 : Int) ^ (18 : Int).toNat ≤ ns[a.toNat] := of_decide_eq_true e2
          refine ⟨_, rfl, _, _, rfl, rfl, ⟨by decide, by decide, by decide⟩, _, _, rfl, rfl, _, rfl, p, _, rfl, pp_digits h2, ?_⟩
          rw [upd_upd]
          exact ⟨_, _, _, _, rfl, rfl, by omega, by omega, hf0, hf1⟩
        · refine ⟨_, rfl, p, _, rfl, pg_fold h2, _, _, rfl, rfl, .inl ⟨by omega, by omega⟩, _, rfl, _, _, rfl, rfl, .inl ⟨_, rfl, _, _, rfl, rfl, (by decide : (0 : Int) < 2147483587), _, rfl, p, _, rfl, pp_fold h2, ?_⟩⟩
          rw [upd_upd]
          exact ⟨_, _, _, _, rfl, rfl, by omega, hd, Int.emod_nonneg _ (by decide), Int.lt_trans (Int.emod_lt_of_pos _ (by decide)) (by decide)⟩
      · exact ⟨_, _, _, _, rfl, rfl, ha, hd, hf0, hf1⟩
    · exact ⟨_, _, _, _, rfl, rfl, ha, hd, hf0, hf1⟩
  · rintro σ' H' ⟨v2, a', d', f', rfl, rfl, ha', hd', hf', hf2⟩
    have h2 : (upd H p (.dK (pk c a' d' (t + 1) f'))) p = some (.dK (pk c a' d' (t + 1) f')) := upd_same
    have fin : ∀ (d2 : Int) (r : Nat), 0 ≤ d2 → r < n → Q (.int (r : Int)) (upd H p (.dK (pk c a' d2 (t + 1) f'))) := fun d2 r h0 hr' =>
      q _ r (Ks.dict hp) ⟨ns, _, _, _, _, upd_same, nx _, hl, ha', h0, by omega, by omega, hf', hf2⟩ hr'
    refine ⟨_, rfl, p, _, rfl, pg_digits h2, _, _, rfl, rfl, _, rfl, ?_⟩
    refine ite2 (fun e0 => ?_) (fun _ => ?_)
    · refine ⟨_, rfl, p, _, rfl, pg_digits h2, .inl ⟨_, rfl, _, rfl, _, _, rfl, rfl, (by omega : (0 : Int) < (n : Int)), ?_⟩⟩
      refine ⟨_, rfl, p, _, rfl, pg_digits h2, _, rfl, _, _, rfl, rfl, ⟨by omega, by omega⟩, _, rfl, p, _, rfl, pp_digits h2, ?_⟩
      rw [upd_upd]
      refine ⟨_, rfl, ?_⟩
      have e1 : d' % (n : Int) = (((d' % (n : Int)).toNat : Nat) : Int) := by
        have := Int.emod_nonneg d' (show (n : Int) ≠ 0 by omega)
        omega
      have e2 : (d' % (n : Int)).toNat < n := by
        have := Int.emod_lt_of_pos d' (show (0 : Int) < n by omega)
        have := Int.emod_nonneg d' (show (n : Int) ≠ 0 by omega)
        omega
      show Q (.int (d' % (n : Int))) _
      rw [e1]
      exact fin _ _ (Int.ediv_nonneg hd' (by omega)) e2
    · refine ⟨_, rfl, p, _, rfl, pg_fold h2, _, rfl, p, _, rfl, pg_count h2, _, _, rfl, rfl, .inr ⟨by decide, by decide⟩, _, _, rfl, rfl, _, _, rfl, rfl, ?_⟩
      refine ⟨_, rfl, _, _, rfl, rfl, ⟨by decide, by decide, ?_⟩, _, _, rfl, rfl, (by decide : (0 : Int) < 2305843009213693951), .inl ⟨_, rfl, _, _, rfl, rfl, ⟨by decide, by decide⟩, _, rfl, _, _, rfl, rfl, (by omega : (0 : Int) < (n : Int)), ?_⟩⟩
      · show (f' + (t + 1) * 7907 + 37).natAbs < 2 ^ 64
        have : (2 : Nat) ^ 64 = 18446744073709551616 := by decide
        omega
      generalize (f' + (t + 1) * 7907 + 37) ^ (17 : Int).toNat % 2305843009213693951 / 128 = z
      have e1 : z % (n : Int) = (((z % (n : Int)).toNat : Nat) : Int) := by
        have := Int.emod_nonneg z (show (n : Int) ≠ 0 by omega)
        omega
      have e2 : (z % (n : Int)).toNat < n := by
        have := Int.emod_lt_of_pos z (show (0 : Int) < n by omega)
        have := Int.emod_nonneg z (show (n : Int) ≠ 0 by omega)
        omega
      show Q (.int (z % (n : Int))) _
      rw [e1]
      exact fin _ _ hd' e2

end
end Vf

set_option maxRecDepth 100000
set_option maxHeartbeats 4000000
namespace Vf
open PySem PySem.Spec PyProof.Rows L2 SX
section
variable {P : Program} {w : World} {K : PySem.W.Frag} {mg : Str → Option Value} {base : Heap}
theorem ok_pick {f : Addr} {fd : FuncData} (F : C8.Def K mg "_law_pick" s_pick f fd) (b : Binds K fd ["_law_pen_here", "_law_some"] []) (T : Tx K w mg) (C_draw : C8.Cal P w K mg base 1 "_law_draw" sp_draw []) : C8.Cal P w K mg base 2 "_law_pick" sp_pick [] := by
  refine C8.cal0 F b .nil sc_pick (fun vs H Q E h => ?_) (fun cdv A outer s H vs Q E hr h => ?_)
  · obtain ⟨p, c, m, x, rfl, _⟩ := h; rfl
  have hu := hu_of hr
  refine ⟨_, (pss_one (ps_ret (pe_ix ix_seq (pv 1) (C8.pe_c C_draw hr (by decide) rfl (pa_cons (pv 0) (pa_cons (pe_callB call_len (by rfl) T.z_len PySem.boot_len (pa_cons (pv 1) pa_nil)) pa_nil))) (fun _ _ => rfl)))), ?_⟩

  obtain ⟨p, c, m, x, rfl, hp, hm, q⟩ := h
  rcases q with ⟨l, rfl, l1, l2, q⟩ | ⟨a, xs, rfl, ha, l1, l2, q⟩
  · refine ⟨_, rfl, _, rfl, _, rfl, _, l.length, rfl, ⟨by rw [S_len]; exact szB l2, by rw [S_len]⟩, ?_⟩
    refine ⟨p, c, m, l.length, rfl, hp, hm, l1, by omega, fun H' r k1 k2 hr' => ?_⟩
    refine .inr (.inr ⟨S l, _, l[r], rfl, rfl, by rw [S_len]; exact szB l2, atI_nat (List.getElem?_eq_getElem hr'), ?_⟩)
    exact q H' _ k1 k2 (List.getElem_mem _)
  · refine ⟨_, rfl, _, rfl, _, rfl, _, xs.length, rfl, .inl ⟨_, SqL.of ha, rfl⟩, ?_⟩
    refine ⟨p, c, m, xs.length, rfl, hp, hm, l1, by omega, fun H' r k1 k2 hr' => ?_⟩
    refine .inl ⟨a, xs, _, xs[r], rfl, rfl, SqL.of (k1.lst ha), atI_nat (List.getElem?_eq_getElem hr'), ?_⟩
    exact q H' _ k1 k2 (List.getElem_mem _)

end
end Vf

set_option maxRecDepth 100000
set_option maxHeartbeats 4000000
namespace Vf
open PySem PySem.Spec PyProof.Rows L2 SX
section
variable {P : Program} {w : World} {K : PySem.W.Frag} {mg : Str → Option Value} {base : Heap}
theorem signs_v {v : V} (h : v ∈ ([.str "ab", .str "ab", .str "a", .str "abc", .str "a b", .str "x~"] : List V)) : ∃ l, v = .str (S l) ∧ 1 ≤ l.length ∧ l.length ≤ 3 ∧ sgn l := by
  simp only [List.mem_cons, List.not_mem_nil, or_false] at h
  rcases h with rfl | rfl | rfl | rfl | rfl | rfl
  · exact ⟨[97, 98], rfl, by decide, by decide, by unfold sgn; decide⟩
  · exact ⟨[97, 98], rfl, by decide, by decide, by unfold sgn; decide⟩
  · exact ⟨[97], rfl, by decide, by decide, by unfold sgn; decide⟩
  · exact ⟨[97, 98, 99], rfl, by decide, by decide, by unfold sgn; decide⟩
  · exact ⟨[97, 32, 98], rfl, by decide, by decide, by unfold sgn; decide⟩
  · exact ⟨[120, 126], rfl, by decide, by decide, by unfold sgn; decide⟩
theorem ok_signs {f : Addr} {fd : FuncData} (F : C8.Def K mg "_law_signs" s_signs f fd) (b : Binds K fd ["_law_pen_here"] []) (T : Tx K w mg) (C_pick : C8.Cal P w K mg base 2 "_law_pick" sp_pick []) : C8.Cal P w K mg base 3 "_law_signs" sp_signs [] := by
  refine C8.cal0 F b .nil sc_signs (fun vs H Q E h => ?_) (fun cdv A outer s H vs Q E hr h => ?_)
  · obtain ⟨p, c, m, rfl, _⟩ := h; rfl
  have hu := hu_of hr
  refine ⟨_, (pss_one (ps_ret (C8.pe_c C_pick hr (by decide) rfl (pa_cons (pv 0) (pa_cons (pe_lst (pa_cons pe_str (pa_cons pe_str (pa_cons pe_str (pa_cons pe_str (pa_cons pe_str (pa_cons pe_str pa_nil))))))) pa_nil))))), ?_⟩

  obtain ⟨p, c, m, rfl, hp, hm, q⟩ := h
  refine ⟨_, rfl, szB (by decide), fun D hD => ?_⟩
  refine ⟨p, c, m, _, rfl, hp.new hD, by omega, .inr ⟨D, _, rfl, upd_same, by decide, by decide, fun H' v k1 k2 k3 => ?_⟩⟩
  obtain ⟨l, rfl, h1, h2, h3⟩ := signs_v k3
  exact q H' l ((Ks.new1 hD _).trans k1) k2 h1 h2 h3

end
end Vf

set_option maxRecDepth 100000
set_option maxHeartbeats 4000000
namespace Vf
open PySem PySem.Spec PyProof.Rows L2 SX
section
variable {P : Program} {w : World} {K : PySem.W.Frag} {mg : Str → Option Value} {base : Heap}
theorem ok_lawWord {f : Addr} {fd : FuncData} (F : C8.Def K mg "_law_word" s_lawWord f fd) (b : Binds K fd ["_law_pen_here", "_law_signs_here", "_law_most"] []) (T : Tx K w mg) (C_draw : C8.Cal P w K mg base 1 "_law_draw" sp_draw []) (C_pick : C8.Cal P w K mg base 2 "_law_pick" sp_pick []) : C8.Cal P w K mg base 3 "_law_word" sp_lawWord [] := by
  refine C8.cal0 F b .nil sc_lawWord (fun vs H Q E h => ?_) (fun cdv A outer s H vs Q E hr h => ?_)
  · obtain ⟨p, c, m, n, sg, rfl, _⟩ := h; rfl
  have hu := hu_of hr
  refine ⟨_, (pss_one (ps_ret (pe_join pe_str (pe_lc (own := [("_law_k", 3)]) (g := (gName 3)) (tt := tYes) rfl sc_lawWord.nd (pi_range1 (by rfl) T.z_range (pa_cons (pe_op op_add pe_int (C8.pe_c C_draw hr (by decide) rfl (pa_cons (pv 0) (pa_cons (pv 2) pa_nil)))) pa_nil)) (blkOk_by (N := N_lawWord) (sc := C8.fnScope s_lawWord) (by decide +kernel)) (fun _ _ _ _ _ => pg_name (i := 3) sc_lawWord.nd rfl (Or.inl rfl)) (fun _ _ _ _ _ => pts_nil) (fun _ _ _ _ _ => (C8.pe_c C_pick hr (by decide) rfl (pa_cons (pv 0) (pa_cons (pv 1) pa_nil)))))))), ?_⟩

  obtain ⟨p, c, m, n, sg, rfl, hp, hm, hn1, hn2, hs1, hs2, q⟩ := h
  refine ⟨⟨_, rfl⟩, _, rfl, _, rfl, p, c, m, n, rfl, hp, by omega, hn1, by omega, fun H1 r k1 k2 hr1 => ?_⟩
  refine ⟨_, _, rfl, rfl, _, rfl, by omega, by omega, fun D hD => ?_⟩
  rw [show ((1 : Int) + (r : Int)).toNat = 1 + r by omega]
  refine lc_pen (m0 := m + 1) (s := 1) (k := 3) (fun v _ => Ones (· ∈ sg) v) (fun _ _ _ _ h => h) (by show 3 < 4; decide) hD k2 (by omega) (fun i H2 m2 Q2 hi hp2 hm2 hq => ?_) (fun H2 xs e1 e2 e3 e4 e5 => ?_)
  · exact ⟨_, rfl, _, rfl, p, c, m2, _, rfl, hp2, by omega, .inl ⟨sg, rfl, hs1, by omega, fun H3 ch j1 j2 j3 => hq H3 _ j1 j2 ⟨ch, rfl, j3⟩⟩⟩
  · obtain ⟨t, rfl, ht⟩ := ones_of e2
    have et : t.length = 1 + r := by rw [← e1, List.length_map, List.length_map]
    refine ⟨S [], D, t.map fun c => S [c], rfl, rfl, .inl (SqL.of e3), ones_bound (by omega), ?_⟩
    rw [join_ones]
    exact q H2 t (k1.trans e4) (e5.mono (by omega)) (by omega) (by omega) ht

end
end Vf

set_option maxRecDepth 100000
set_option maxHeartbeats 4000000
namespace Vf
open PySem PySem.Spec PyProof.Rows L2 SX
section
variable {P : Program} {w : World} {K : PySem.W.Frag} {mg : Str → Option Value} {base : Heap}
theorem ok_lawText {f : Addr} {fd : FuncData} (F : C8.Def K mg "_law_text" s_lawText f fd) (b : Binds K fd ["_law_pen_here", "_law_signs_here", "_law_most"] []) (T : Tx K w mg) (C_draw : C8.Cal P w K mg base 1 "_law_draw" sp_draw []) (C_pick : C8.Cal P w K mg base 2 "_law_pick" sp_pick []) : C8.Cal P w K mg base 3 "_law_text" sp_lawText [] := by
  refine C8.cal0 F b .nil sc_lawText (fun vs H Q E h => ?_) (fun cdv A outer s H vs Q E hr h => ?_)
  · obtain ⟨p, c, m, n, sg, rfl, _⟩ := h; rfl
  have hu := hu_of hr
  refine ⟨_, (pss_one (ps_ret (pe_join pe_str (pe_lc (own := [("_law_k", 3)]) (g := (gName 3)) (tt := tYes) rfl sc_lawText.nd (pi_range1 (by rfl) T.z_range (pa_cons (C8.pe_c C_draw hr (by decide) rfl (pa_cons (pv 0) (pa_cons (pe_op op_add (pv 2) pe_int) pa_nil))) pa_nil)) (blkOk_by (N := N_lawText) (sc := C8.fnScope s_lawText) (by decide +kernel)) (fun _ _ _ _ _ => pg_name (i := 3) sc_lawText.nd rfl (Or.inl rfl)) (fun _ _ _ _ _ => pts_nil) (fun _ _ _ _ _ => (C8.pe_c C_pick hr (by decide) rfl (pa_cons (pv 0) (pa_cons (pe_op op_add_str (pe_op op_add_str (pv 1) (pv 1)) pe_str) pa_nil)))))))), ?_⟩

  obtain ⟨p, c, m, n, sg, rfl, hp, hm, hn2, hs2, hsm, q⟩ := h
  refine ⟨⟨_, rfl⟩, _, rfl, _, rfl, _, _, rfl, rfl, p, c, m, n + 1, by simp, hp, by omega, by omega, by omega, fun H1 r k1 k2 hr1 => ?_⟩
  refine ⟨_, rfl, by omega, by omega, fun D hD => ?_⟩
  rw [show ((r : Int)).toNat = r by omega]
  have el : S sg ++ S sg ++ ("\n\nz" : Str) = S (sg ++ sg ++ [10, 10, 122]) := by
    rw [show ("\n\nz" : Str) = S [10, 10, 122] by decide +kernel, S_cat, S_cat]
  have hbound : ∀ z ∈ sg ++ sg ++ [10, 10, 122], z < 1000 := fun z hz => by
    rcases List.mem_append.mp hz with hz | hz
    · rcases List.mem_append.mp hz with hz | hz <;> exact hsm z hz
    · simp at hz; omega
  refine lc_pen (m0 := m + 1) (s := 1) (k := 3) (fun v _ => Ones (· < 1000) v) (fun _ _ _ _ h => h) (by show 3 < 4; decide) hD k2 (by omega) (fun i H2 m2 Q2 hi hp2 hm2 hq => ?_) (fun H2 xs e1 e2 e3 e4 e5 => ?_)
  · refine ⟨_, rfl, _, rfl, _, rfl, _, _, rfl, rfl, by rw [S_len]; exact szB (by omega), _, _, rfl, rfl, (by show (S sg ++ S sg).length + 3 ≤ sizeLine; rw [S_cat, S_len, List.length_append]; exact szB (by omega)), p, c, m2, _, rfl, hp2, by omega, .inl ⟨sg ++ sg ++ [10, 10, 122], by rw [el], by rw [List.length_append]; exact Nat.le_add_left_of_le (by decide), by rw [List.length_append, List.length_append]; show _ + _ + 3 ≤ _; omega, fun H3 ch j1 j2 j3 => hq H3 _ j1 j2 ⟨ch, rfl, hbound ch j3⟩⟩⟩
  · obtain ⟨t, rfl, ht⟩ := ones_of e2
    have et : t.length = r := by rw [← e1, List.length_map, List.length_map]
    refine ⟨S [], D, t.map fun c => S [c], rfl, rfl, .inl (SqL.of e3), ones_bound (by omega), ?_⟩
    rw [join_ones]
    exact q H2 t (k1.trans e4) (e5.mono (by omega)) (by omega) ht

end
end Vf

set_option maxRecDepth 100000
set_option maxHeartbeats 4000000
namespace Vf
open PySem PySem.Spec PyProof.Rows L2 SX
section
variable {P : Program} {w : World} {K : PySem.W.Frag} {mg : Str → Option Value} {base : Heap}
theorem ok_patch {f : Addr} {fd : FuncData} (F : C8.Def K mg "_law_patch" s_patch f fd) (b : Binds K fd ["_law_pen_here", "_law_signs_here", "_law_most"] []) (T : Tx K w mg) (C_draw : C8.Cal P w K mg base 1 "_law_draw" sp_draw []) (C_lawWord : C8.Cal P w K mg base 3 "_law_word" sp_lawWord []) : C8.Cal P w K mg base 4 "_law_patch" sp_patch [] := by
  refine C8.cal0 F b .nil sc_patch (fun vs H Q E h => ?_) (fun cdv A outer s H vs Q E hr h => ?_)
  · obtain ⟨p, c, m, n, sg, rfl, _⟩ := h; rfl
  have hu := hu_of hr
  refine ⟨_, (pss_one (ps_ret (pe_ifExp (pt_cmpR op_eq (C8.pe_c C_draw hr (by decide) rfl (pa_cons (pv 0) (pa_cons pe_int pa_nil))) pe_int (nomark _)) pe_str (C8.pe_c C_lawWord hr (by decide) rfl (pa_cons (pv 0) (pa_cons (pv 1) (pa_cons (pv 2) pa_nil))))))), ?_⟩

  obtain ⟨p, c, m, n, sg, rfl, hp, hm, hn1, hn2, hs1, hs2, q⟩ := h
  refine ⟨_, rfl, p, c, m, 3, rfl, hp, by omega, by decide, by decide, fun H1 r k1 k2 hr1 => ?_⟩
  refine ⟨rfl, _, rfl, ?_⟩
  refine ite2 (fun _ => ?_) (fun _ => ?_)
  · exact q H1 [] k1 (k2.mono (by omega)) (Nat.zero_le _) (fun _ h => nomatch h)
  · exact ⟨_, rfl, _, rfl, _, rfl, p, c, m + 1, n, sg, rfl, k2, by omega, hn1, by omega, hs1, hs2, fun H2 t k3 k4 h1 h2 h3 => q H2 t (k1.trans k3) (k4.mono (by omega)) h2 h3⟩

end
end Vf

set_option maxRecDepth 100000
set_option maxHeartbeats 4000000
namespace Vf
open PySem PySem.Spec PyProof.Rows L2 SX
section
variable {P : Program} {w : World} {K : PySem.W.Frag} {mg : Str → Option Value} {base : Heap}
theorem pick_v {v : V} (h : v ∈ ([.str "all", .str "begins", .str "ends", .str "has", .str "is", .str "short", .str "number", .str "last"] ++ [.str "has", .str "begins"] : List V)) : ∃ k, v = .str k ∧ (isW k ∨ (k = "short" ∨ k = "number") ∨ k = "all" ∨ k = "last") := by
  simp only [List.cons_append, List.nil_append, List.mem_cons, List.not_mem_nil, or_false] at h
  unfold isW
  rcases h with rfl | rfl | rfl | rfl | rfl | rfl | rfl | rfl | rfl | rfl <;> exact ⟨_, rfl, by simp⟩
theorem patch_ok {k : Str} {t sg : List Nat} (h : isW k) (hs : sgn sg) (h1 : t.length ≤ 6) (h2 : ∀ z ∈ t, z ∈ sg) : OkP (k, .str (S t)) := .wd h h1 fun c hc => hs c (h2 c hc)
theorem ok_lawPlainTest {f : Addr} {fd : FuncData} (F : C8.Def K mg "_law_plain_test" s_lawPlainTest f fd) (b : Binds K fd ["_law_pen_here", "_law_signs_here"] []) (T : Tx K w mg) (C_pick : C8.Cal P w K mg base 2 "_law_pick" sp_pick []) (C_patch : C8.Cal P w K mg base 4 "_law_patch" sp_patch []) (C_draw : C8.Cal P w K mg base 1 "_law_draw" sp_draw []) : C8.Cal P w K mg base 5 "_law_plain_test" sp_lawPlainTest [] := by
  refine C8.cal0 F b .nil sc_lawPlainTest (fun vs H Q E h => ?_) (fun cdv A outer s H vs Q E hr h => ?_)
  · obtain ⟨p, c, m, sg, rfl, _⟩ := h; rfl
  have hu := hu_of hr
  refine ⟨_, (pss_cons (ps_set (i := 2) sc_lawPlainTest.nd rfl (Or.inl rfl) (pe_lst (pa_cons pe_str (pa_cons pe_str (pa_cons pe_str (pa_cons pe_str (pa_cons pe_str (pa_cons pe_str (pa_cons pe_str (pa_cons pe_str pa_nil))))))))))
      (pss_cons (ps_par (i := 3) (j := 4) (by rfl) sc_lawPlainTest.nd rfl rfl (by decide) rfl rfl (pa_cons (C8.pe_c C_pick hr (by decide) rfl (pa_cons (pv 0) (pa_cons (pe_op op_cat (pv 2) (pe_lst (pa_cons pe_str (pa_cons pe_str pa_nil)))) pa_nil))) (pa_cons pe_non pa_nil)) (by rfl))
      (C8.pss_cut (ps_if (pt_cmpR op_in_seq (pv 3) (pe_lst (pa_cons pe_str (pa_cons pe_str (pa_cons pe_str (pa_cons pe_str pa_nil))))) rfl)
      (pss_one (ps_set (i := 4) sc_lawPlainTest.nd rfl (Or.inl rfl) (C8.pe_c C_patch hr (by decide) rfl (pa_cons (pv 0) (pa_cons (pv 1) (pa_cons pe_int pa_nil))))))
      pss_nil)
      (C8.pss_cut (ps_if (pt_cmpR op_in_seq (pv 3) (pe_lst (pa_cons pe_str (pa_cons pe_str pa_nil))) rfl)
      (pss_one (ps_set (i := 4) sc_lawPlainTest.nd rfl (Or.inl rfl) (pe_op op_add pe_int (C8.pe_c C_draw hr (by decide) rfl (pa_cons (pv 0) (pa_cons pe_int pa_nil))))))
      pss_nil)
      (pss_one (ps_ret (pe_tup (pa_cons (pv 3) (pa_cons (pv 4) (pa_cons pe_non (pa_cons pe_non (pa_cons pe_bl pa_nil)))))))))))), ?_⟩

  obtain ⟨p, c, m, sg, rfl, hp, hm, hs1, hs2, hsg, q⟩ := h
  refine ⟨szB (by decide), fun W hW => ?_⟩
  refine ⟨_, rfl, _, rfl, szB (by decide), fun Y hY => ?_⟩
  have nW : W ≠ Y := ne_of_none upd_same hY
  refine ⟨W, Y, _, _, rfl, rfl, by rw [upd_ne nW]; exact upd_same, upd_same, szB (by decide), fun Z hZ => ?_⟩
  refine ⟨p, c, m, _, rfl, ((hp.new hW).new hY).new hZ, by omega, .inr ⟨Z, _, rfl, upd_same, by decide, by decide, fun H1 v k1 k2 k3 => ?_⟩⟩
  obtain ⟨k, rfl, hk⟩ := pick_v k3
  have ks1 : Ks H H1 := (((Ks.new1 hW _).new hY _).new hZ _).trans k1
  refine ⟨_, _, rfl, ?_⟩
  refine ⟨fun σ' H' => ∃ g, σ' = [some (.ref p), some (.str (S sg)), some (.ref W), some (.str k), some g] ∧ PenAt H' p c (m + 9) ∧ Ks H H' ∧ ((isW k ∧ OkP (k, g)) ∨ ((k = "short" ∨ k = "number") ∧ g = .non) ∨ ((k = "all" ∨ k = "last") ∧ g = .non)), ?_, ?_⟩
  · refine ⟨_, rfl, szB (by decide), fun L hL => ?_⟩
    refine ⟨L, l4, rfl, .inl (SqL.of upd_same), rfl, by decide, _, rfl, ?_⟩
    have kL := ks1.new hL (.lst l4)
    have pL := k2.new (o := .lst l4) hL
    rcases hk with hk | hk | hk
    · rw [(cl_w hk).2.1]
      refine ify rfl ?_
      refine ⟨_, rfl, _, rfl, p, c, m + 1, 2, sg, rfl, pL, by omega, by decide, by decide, hs1, hs2, fun H2 t j1 j2 h1 h2 => ?_⟩
      exact ⟨_, rfl, j2.mono (by omega), kL.trans j1, .inl ⟨hk, patch_ok hk hsg (by omega) h2⟩⟩
    · rw [(cl_n hk).2.1]
      exact ifn rfl ⟨_, rfl, pL.mono (by omega), kL, .inr (.inl ⟨hk, rfl⟩)⟩
    · rw [(cl_b hk).2.1]
      exact ifn rfl ⟨_, rfl, pL.mono (by omega), kL, .inr (.inr ⟨hk, rfl⟩)⟩
  rintro σ' H2 ⟨g, rfl, p2, ks2, hk2⟩
  refine ⟨fun σ' H' => ∃ g, σ' = [some (.ref p), some (.str (S sg)), some (.ref W), some (.str k), some g] ∧ PenAt H' p c (m + 10) ∧ Ks H H' ∧ OkP (k, g), ?_, ?_⟩
  · refine ⟨_, rfl, szB (by decide), fun L hL => ?_⟩
    refine ⟨L, l2, rfl, .inl (SqL.of upd_same), rfl, by decide, _, rfl, ?_⟩
    have kL := ks2.new hL (.lst l2)
    have pL := p2.new (o := .lst l2) hL
    rcases hk2 with ⟨hk, ok⟩ | ⟨hk, rfl⟩ | ⟨hk, rfl⟩
    · rw [(cl_w hk).2.2.1]
      exact ifn rfl ⟨_, rfl, pL.mono (by omega), kL, ok⟩
    · rw [(cl_n hk).2.2.1]
      refine ify rfl ?_
      refine ⟨_, rfl, p, c, m + 9, 3, rfl, pL, by omega, by decide, by decide, fun H3 r j1 j2 hr3 => ?_⟩
      refine ⟨_, _, rfl, rfl, _, rfl, j2, kL.trans j1, ?_⟩
      have e : (1 : Int) + (r : Int) = ((1 + r : Nat) : Int) := by omega
      show OkP (k, .int ((1 : Int) + (r : Int)))
      rw [e]
      rcases hk with rfl | rfl
      · exact .sh (by omega)
      · exact .nu (by omega) (by omega)
    · rw [(cl_b hk).2.2.1]
      exact ifn rfl ⟨_, rfl, pL.mono (by omega), kL, .ba hk⟩
  rintro σ' H3 ⟨g, rfl, p3, ks3, ok⟩
  refine ⟨_, rfl, _, rfl, szB (by show 5 ≤ 1000000; decide), fun a ha => ?_⟩
  exact q _ a (k, g) (ks3.new ha _) (p3.new ha) ok upd_same

end
end Vf

set_option maxRecDepth 100000
set_option maxHeartbeats 4000000
namespace Vf
open PySem PySem.Spec PyProof.Rows L2 SX
section
variable {P : Program} {w : World} {K : PySem.W.Frag} {mg : Str → Option Value} {base : Heap}
theorem cut4 (a b c d e : V) : cutV [a, b, c, d, e] none (some 4) = [a, b, c, d] := rfl
/-- the last entry is told anew -/
def Tst.sg (b : Bool) : Tst → Tst
  | .pl p _ => .pl p b
  | .rg p q _ => .rg p q b
theorem OkT.sg {t : Tst} (h : OkT t) (b : Bool) : OkT (t.sg b) := by cases t <;> exact h
def ckL : Tst → V → V → List V
  | .pl p n, _, _ => cT p .non .non n
  | .rg _ _ n, x, y => cT ("from", .non) x y n
theorem ck_l {H : Hp} {a : Addr} : ∀ {t : Tst}, CkAt H a t → ∃ (p : Pt) (x y : V), H a = some (.tup (cT p x y t.neg)) ∧ ∀ (b : Bool) (H' : Hp) (a' : Addr), Tk H H' → H' a' = some (.tup (cT p x y b)) → CkAt H' a' (t.sg b)
  | .pl p n, h => ⟨p, .non, .non, h, fun _ _ _ _ h' => h'⟩
  | .rg p q n, ⟨b, c, h, h1, h2⟩ => ⟨("from", .non), .ref b, .ref c, h, fun _ _ _ k h' => ⟨b, c, h', k _ _ h1, k _ _ h2⟩⟩
theorem ok_lawTest {f : Addr} {fd : FuncData} (F : C8.Def K mg "_law_test" s_lawTest f fd) (b : Binds K fd ["_law_pen_here", "_law_signs_here"] []) (T : Tx K w mg) (C_lawPlainTest : C8.Cal P w K mg base 5 "_law_plain_test" sp_lawPlainTest []) (C_draw : C8.Cal P w K mg base 1 "_law_draw" sp_draw []) : C8.Cal P w K mg base 6 "_law_test" sp_lawTest [] := by
  refine C8.cal0 F b .nil sc_lawTest (fun vs H Q E h => ?_) (fun cdv A outer s H vs Q E hr h => ?_)
  · obtain ⟨p, c, m, sg, rfl, _⟩ := h; rfl
  have hu := hu_of hr
  refine ⟨_, (pss_cons (ps_set (i := 2) sc_lawTest.nd rfl (Or.inl rfl) (C8.pe_c C_lawPlainTest hr (by decide) rfl (pa_cons (pv 0) (pa_cons (pv 1) pa_nil))))
      (C8.pss_cut (ps_if (pt_cmpR op_eq (C8.pe_c C_draw hr (by decide) rfl (pa_cons (pv 0) (pa_cons pe_int pa_nil))) pe_int (nomark _))
      (pss_one (ps_set (i := 2) sc_lawTest.nd rfl (Or.inl rfl) (pe_tup (pa_cons pe_str (pa_cons pe_non (pa_cons (pv 2) (pa_cons (C8.pe_c C_lawPlainTest hr (by decide) rfl (pa_cons (pv 0) (pa_cons (pv 1) pa_nil))) (pa_cons pe_bl pa_nil))))))))
      pss_nil)
      (pss_one (ps_ret (pe_op op_catT (pe_slice sl_tup (pv 2) po_none (po_some pe_int)) (pe_tup (pa_cons (pe_cmpR op_eq (C8.pe_c C_draw hr (by decide) rfl (pa_cons (pv 0) (pa_cons pe_int pa_nil))) pe_int (nomark _)) pa_nil))))))), ?_⟩

  obtain ⟨p, c, m, sg, rfl, hp, hm, hs1, hs2, hsg, q⟩ := h
  refine ⟨_, rfl, _, rfl, p, c, m, sg, rfl, hp, by omega, hs1, hs2, hsg, fun H1 a z k1 p1 oz ha => ?_⟩
  refine ⟨fun σ' H' => ∃ (a : Addr) (t : Tst), σ' = [some (.ref p), some (.str (S sg)), some (.ref a)] ∧ PenAt H' p c (m + 25) ∧ Ks H H' ∧ OkT t ∧ CkAt H' a t, ?_, ?_⟩
  · refine ⟨_, rfl, p, c, m + 10, 5, rfl, p1, by omega, by decide, by decide, fun H2 r k2 p2 hr2 => ?_⟩
    refine ⟨rfl, _, rfl, ?_⟩
    refine ite2 (fun _ => ?_) (fun _ => ?_)
    · refine ⟨_, rfl, _, rfl, _, rfl, p, c, m + 11, sg, rfl, p2, by omega, hs1, hs2, hsg, fun H3 b y k3 p3 oy hb => ?_⟩
      refine ⟨szB (by show 5 ≤ 1000000; decide), fun d hd => ?_⟩
      have ha3 := (k2.trans k3).tup ha
      exact ⟨d, .rg z y false, rfl, (p3.new hd).mono (by omega), ((k1.trans (k2.trans k3)).new hd _), ⟨oz, oy⟩, a, b, upd_same, by rw [upd_ne (ne_of_none ha3 hd)]; exact ha3, by rw [upd_ne (ne_of_none hb hd)]; exact hb⟩
    · exact ⟨a, .pl z false, rfl, p2.mono (by omega), k1.trans k2, oz, k2.tup ha⟩
  rintro σ' H2 ⟨a2, t, rfl, p2, k2, ot, ck⟩
  obtain ⟨z2, x, y, h2, back⟩ := ck_l ck
  refine ⟨_, rfl, _, rfl, a2, _, rfl, SqT.of h2, (by show ¬ (HT.sIx 5 0 none = 0 ∧ HT.sIx 5 5 (some 4) = 5); decide), fun u hu => ?_⟩
  have ks3 := k2.new hu (.tup (cutV (cT z2 x y t.neg) none (some 4)))
  have tk3 : Tk H2 (upd H2 u (.tup (cutV (cT z2 x y t.neg) none (some 4)))) := (Ks.new1 hu _).tk
  have hu3 : (upd H2 u (.tup (cutV (cT z2 x y t.neg) none (some 4)))) u = some (.tup [.str z2.1, z2.2, x, y]) := upd_same
  have p3 : PenAt (upd H2 u (.tup (cutV (cT z2 x y t.neg) none (some 4)))) p c (m + 25) := p2.new hu
  generalize (upd H2 u (.tup (cutV (cT z2 x y t.neg) none (some 4)))) = H3 at ks3 tk3 hu3 p3 ⊢
  refine ⟨_, rfl, p, c, m + 25, 4, rfl, p3, by omega, by decide, by decide, fun H4 r k4 p4 hr4 => ?_⟩
  refine ⟨rfl, szB (by show 1 ≤ 1000000; decide), fun e he => ?_⟩
  have hu4 := k4.tup hu3
  refine ⟨u, e, [.str z2.1, z2.2, x, y], _, rfl, rfl, SqT.of (by rw [upd_ne (ne_of_none hu4 he)]; exact hu4), SqT.of upd_same, (fun z => nomatch z), szB (by show 4 + 1 ≤ 1000000; decide), (fun z => nomatch z), fun _ g hg => ?_⟩
  exact q _ g (t.sg _) (((ks3.trans k4).new he _).new hg _) (((p4.new he).new hg).mono (by omega)) (ot.sg _) (back _ _ g (tk3.trans (k4.tk.trans ((Ks.new1 he _).new hg _).tk)) upd_same)

end
end Vf

set_option maxRecDepth 100000
set_option maxHeartbeats 4000000
namespace Vf
open PySem PySem.Spec PyProof.Rows L2 SX
section
variable {P : Program} {w : World} {K : PySem.W.Frag} {mg : Str → Option Value} {base : Heap}
theorem long_v {v : V} (h : v ∈ ([.str "aab", .str "abab", .str "aaa", .str "abaab", .str "aabaab", .str "abbab", .str "aabaaa", .str "ba", .str "b"] : List V)) : ∃ l, v = .str (S l) ∧ 1 ≤ l.length ∧ l.length ≤ 6 ∧ sgn l := by
  simp only [List.mem_cons, List.not_mem_nil, or_false] at h
  rcases h with rfl | rfl | rfl | rfl | rfl | rfl | rfl | rfl | rfl
  · exact ⟨[97, 97, 98], rfl, by decide, by decide, by unfold sgn; decide⟩
  · exact ⟨[97, 98, 97, 98], rfl, by decide, by decide, by unfold sgn; decide⟩
  · exact ⟨[97, 97, 97], rfl, by decide, by decide, by unfold sgn; decide⟩
  · exact ⟨[97, 98, 97, 97, 98], rfl, by decide, by decide, by unfold sgn; decide⟩
  · exact ⟨[97, 97, 98, 97, 97, 98], rfl, by decide, by decide, by unfold sgn; decide⟩
  · exact ⟨[97, 98, 98, 97, 98], rfl, by decide, by decide, by unfold sgn; decide⟩
  · exact ⟨[97, 97, 98, 97, 97, 97], rfl, by decide, by decide, by unfold sgn; decide⟩
  · exact ⟨[98, 97], rfl, by decide, by decide, by unfold sgn; decide⟩
  · exact ⟨[98], rfl, by decide, by decide, by unfold sgn; decide⟩
theorem ok_longWord {f : Addr} {fd : FuncData} (F : C8.Def K mg "_law_long_word" s_longWord f fd) (b : Binds K fd ["_law_pen_here"] []) (T : Tx K w mg) (C_pick : C8.Cal P w K mg base 2 "_law_pick" sp_pick []) : C8.Cal P w K mg base 3 "_law_long_word" sp_longWord [] := by
  refine C8.cal0 F b .nil sc_longWord (fun vs H Q E h => ?_) (fun cdv A outer s H vs Q E hr h => ?_)
  · obtain ⟨p, c, m, rfl, _⟩ := h; rfl
  have hu := hu_of hr
  refine ⟨_, (pss_one (ps_ret (C8.pe_c C_pick hr (by decide) rfl (pa_cons (pv 0) (pa_cons (pe_lst (pa_cons pe_str (pa_cons pe_str (pa_cons pe_str (pa_cons pe_str (pa_cons pe_str (pa_cons pe_str (pa_cons pe_str (pa_cons pe_str (pa_cons pe_str pa_nil)))))))))) pa_nil))))), ?_⟩

  obtain ⟨p, c, m, rfl, hp, hm, q⟩ := h
  refine ⟨_, rfl, szB (by decide), fun D hD => ?_⟩
  refine ⟨p, c, m, _, rfl, hp.new hD, by omega, .inr ⟨D, _, rfl, upd_same, by decide, by decide, fun H' v k1 k2 k3 => ?_⟩⟩
  obtain ⟨l, rfl, h1, h2, h3⟩ := long_v k3
  exact q H' l ((Ks.new1 hD _).trans k1) k2 h1 h2 h3

end
end Vf

set_option maxRecDepth 100000
set_option maxHeartbeats 4000000
namespace Vf
open PySem PySem.Spec PyProof.Rows L2 SX
section
variable {P : Program} {w : World} {K : PySem.W.Frag} {mg : Str → Option Value} {base : Heap}
theorem slice_any (a : List Nat) (i j : Nat) : ∃ t, Txt.slice (S a) (some (i : Int)) (some (j : Int)) = S t ∧ t.length ≤ a.length ∧ ∀ z ∈ t, z ∈ a := by
  refine ⟨(a.drop (min i a.length)).take (min j a.length - min i a.length), ?_, ?_, fun z hz => List.mem_of_mem_drop (List.mem_of_mem_take hz)⟩
  · rw [← C8.cutS_slice]
    unfold cutS
    rw [S_len, HT.sIx_nat, HT.sIx_nat]
  · rw [List.length_take, List.length_drop]
    omega
theorem tail_v {v : V} (h : v ∈ ([.str "", .str "", .str "a", .str "b", .str "\n"] : List V)) : ∃ l, v = .str (S l) ∧ l.length ≤ 1 ∧ ∀ z ∈ l, z < 1000 := by
  simp only [List.mem_cons, List.not_mem_nil, or_false] at h
  rcases h with rfl | rfl | rfl | rfl | rfl
  · exact ⟨[], rfl, by decide, by decide⟩
  · exact ⟨[], rfl, by decide, by decide⟩
  · exact ⟨[97], rfl, by decide, by decide⟩
  · exact ⟨[98], rfl, by decide, by decide⟩
  · exact ⟨[10], rfl, by decide, by decide⟩
theorem ok_longText {f : Addr} {fd : FuncData} (F : C8.Def K mg "_law_long_text" s_longText f fd) (b : Binds K fd ["_law_pen_here"] []) (T : Tx K w mg) (C_draw : C8.Cal P w K mg base 1 "_law_draw" sp_draw []) (C_longWord : C8.Cal P w K mg base 3 "_law_long_word" sp_longWord []) (C_pick : C8.Cal P w K mg base 2 "_law_pick" sp_pick []) : C8.Cal P w K mg base 4 "_law_long_text" sp_longText [] := by
  refine C8.cal0 F b .nil sc_longText (fun vs H Q E h => ?_) (fun cdv A outer s H vs Q E hr h => ?_)
  · obtain ⟨p, c, m, rfl, _⟩ := h; rfl
  have hu := hu_of hr
  refine ⟨_, (pss_cons (ps_set (i := 1) sc_longText.nd rfl (Or.inl rfl) pe_str)
      (pss_cons (ps_for PassesOwn.never rfl (pi_range1 (by rfl) T.z_range (pa_cons (C8.pe_c C_draw hr (by decide) rfl (pa_cons (pv 0) (pa_cons pe_int pa_nil))) pa_nil)) (pg_name (i := 2) sc_longText.nd rfl (Or.inl rfl))
      (pss_cons (ps_set (i := 3) sc_longText.nd rfl (Or.inl rfl) (C8.pe_c C_longWord hr (by decide) rfl (pa_cons (pv 0) pa_nil)))
      (pss_one (ps_set (i := 1) sc_longText.nd rfl (Or.inl rfl) (pe_op op_add_str (pe_op op_add_str (pv 1) (pe_slice C8.sl_txt (pv 3) (po_some (C8.pe_c C_draw hr (by decide) rfl (pa_cons (pv 0) (pa_cons pe_int pa_nil)))) (po_some (pe_op op_sub (pe_callB call_len (by rfl) T.z_len PySem.boot_len (pa_cons (pv 3) pa_nil)) (C8.pe_c C_draw hr (by decide) rfl (pa_cons (pv 0) (pa_cons pe_int pa_nil))))))) (C8.pe_c C_pick hr (by decide) rfl (pa_cons (pv 0) (pa_cons (pe_lst (pa_cons pe_str (pa_cons pe_str (pa_cons pe_str (pa_cons pe_str (pa_cons pe_str pa_nil)))))) pa_nil))))))))
      (pss_one (ps_ret (pv 1))))), ?_⟩

  obtain ⟨p, c, m, rfl, hp, hm, q⟩ := h
  refine ⟨_, rfl, p, c, m, 7, rfl, hp, by omega, by decide, by decide, fun H1 r k1 p1 hr1 => ?_⟩
  refine ⟨_, rfl, by omega, by omega, ?_⟩
  rw [show ((r : Int)).toNat = r from Int.toNat_natCast r]
  refine for_it walk_range (fun i σ' H' => ∃ (l : List Nat) (v2 v3 : Option V), σ' = [some (.ref p), some (.str (S l)), v2, v3] ∧ PenAt H' p c (m + 1 + i * 4) ∧ Ks H H' ∧ l.length ≤ i * 7 ∧ ∀ z ∈ l, z < 1000) ?_ (fun _ _ _ _ _ => trivial) (fun i x σ' H2 H3 hi e y => ?_) (fun σ' H2 e => ?_)
  · exact ⟨[], none, none, rfl, p1, k1, Nat.zero_le _, fun _ h => nomatch h⟩
  · obtain ⟨rfl, rfl⟩ := y
    obtain ⟨l, v2, v3, rfl, p2, k2, hl, hz⟩ := e
    refine ⟨_, rfl, p, c, _, rfl, p2, by omega, fun H4 w k4 p4 w1 w2 w3 => ?_⟩
    refine ⟨_, rfl, _, rfl, ?_⟩
    refine ⟨_, rfl, p, c, _, 2, rfl, p4, by omega, by decide, by decide, fun H5 d1 k5 p5 hd1 => ⟨_, rfl, ?_⟩⟩
    refine ⟨_, rfl, _, w.length, rfl, ⟨by rw [S_len]; exact szB (by omega), by rw [S_len]⟩, _, rfl, p, c, _, 2, rfl, p5, by omega, by decide, by decide, fun H6 d2 k6 p6 hd2 => ⟨_, _, rfl, rfl, ⟨_, rfl, ?_⟩⟩⟩
    have ej : (w.length : Int) - (d2 : Int) = ((w.length - d2 : Nat) : Int) := by omega
    rw [ej]
    obtain ⟨t, et, t1, t2⟩ := slice_any w d1 (w.length - d2)
    refine ⟨S w, rfl, by rw [S_len]; exact szB (by omega), ?_⟩
    rw [et]
    refine ⟨_, _, rfl, rfl, by rw [S_len, S_len]; exact szB (by omega), ?_⟩
    rw [S_cat]
    refine ⟨_, rfl, szB (by decide), fun D hD => ?_⟩
    refine ⟨p, c, _, _, rfl, p6.new hD, by omega, .inr ⟨D, _, rfl, upd_same, by decide, by decide, fun H7 v k7 p7 hv => ?_⟩⟩
    obtain ⟨u, rfl, u1, u2⟩ := tail_v hv
    refine ⟨_, _, rfl, rfl, by rw [S_len, S_len, List.length_append]; exact szB (by omega), ?_⟩
    rw [S_cat]
    have lt : ∀ z ∈ l ++ t ++ u, z < 1000 := fun z h => by
      rcases List.mem_append.mp h with h | h
      · rcases List.mem_append.mp h with h | h
        · exact hz z h
        · exact sgn_lt w3 z (t2 z h)
      · exact u2 z h
    exact ⟨l ++ t ++ u, _, _, rfl, p7.mono (by omega), k2.trans (k4.trans (k5.trans (k6.trans ((Ks.new1 hD _).trans k7)))), by rw [List.length_append, List.length_append]; omega, lt⟩
  · obtain ⟨l, v2, v3, rfl, p2, k2, hl, hz⟩ := e
    exact ⟨_, rfl, q H2 l k2 (p2.mono (by omega)) (by omega) hz⟩

end
end Vf

set_option maxRecDepth 100000
set_option maxHeartbeats 4000000
namespace Vf
open PySem PySem.Spec PyProof.Rows L2 SX
section
variable {P : Program} {w : World} {K : PySem.W.Frag} {mg : Str → Option Value} {base : Heap}
theorem long_w {v : V} (h : v ∈ ([.str "begins", .str "ends", .str "has", .str "has", .str "is", .str "short", .str "number", .str "last"] : List V)) : ∃ k, v = .str k ∧ (isW k ∨ (k = "short" ∨ k = "number") ∨ k = "all" ∨ k = "last") := by
  simp only [List.mem_cons, List.not_mem_nil, or_false] at h
  unfold isW
  rcases h with rfl | rfl | rfl | rfl | rfl | rfl | rfl | rfl <;> exact ⟨_, rfl, by simp⟩
theorem long_n {v : V} (h : v ∈ ([.int 0, .int 1, .int 5, .int 9, .int 40] : List V)) : ∃ n : Nat, v = .int (n : Int) ∧ n ≤ 40 := by
  simp only [List.mem_cons, List.not_mem_nil, or_false] at h
  rcases h with rfl | rfl | rfl | rfl | rfl
  · exact ⟨0, rfl, by decide⟩
  · exact ⟨1, rfl, by decide⟩
  · exact ⟨5, rfl, by decide⟩
  · exact ⟨9, rfl, by decide⟩
  · exact ⟨40, rfl, by decide⟩
theorem ok_longTest {f : Addr} {fd : FuncData} (F : C8.Def K mg "_law_long_test" s_longTest f fd) (b : Binds K fd ["_law_pen_here"] []) (T : Tx K w mg) (C_pick : C8.Cal P w K mg base 2 "_law_pick" sp_pick []) (C_longWord : C8.Cal P w K mg base 3 "_law_long_word" sp_longWord []) (C_draw : C8.Cal P w K mg base 1 "_law_draw" sp_draw []) : C8.Cal P w K mg base 4 "_law_long_test" sp_longTest [] := by
  refine C8.cal0 F b .nil sc_longTest (fun vs H Q E h => ?_) (fun cdv A outer s H vs Q E hr h => ?_)
  · obtain ⟨p, c, m, rfl, _⟩ := h; rfl
  have hu := hu_of hr
  refine ⟨_, (pss_cons (ps_par (i := 1) (j := 2) (by rfl) sc_longTest.nd rfl rfl (by decide) rfl rfl (pa_cons (C8.pe_c C_pick hr (by decide) rfl (pa_cons (pv 0) (pa_cons (pe_lst (pa_cons pe_str (pa_cons pe_str (pa_cons pe_str (pa_cons pe_str (pa_cons pe_str (pa_cons pe_str (pa_cons pe_str (pa_cons pe_str pa_nil))))))))) pa_nil))) (pa_cons pe_non pa_nil)) (by rfl))
      (C8.pss_cut (ps_if (pt_cmpR op_in_seq (pv 1) (pe_lst (pa_cons pe_str (pa_cons pe_str (pa_cons pe_str (pa_cons pe_str pa_nil))))) rfl)
      (pss_one (ps_set (i := 2) sc_longTest.nd rfl (Or.inl rfl) (C8.pe_c C_longWord hr (by decide) rfl (pa_cons (pv 0) pa_nil))))
      pss_nil)
      (C8.pss_cut (ps_if (pt_cmpR op_in_seq (pv 1) (pe_lst (pa_cons pe_str (pa_cons pe_str pa_nil))) rfl)
      (pss_one (ps_set (i := 2) sc_longTest.nd rfl (Or.inl rfl) (pe_ifExp (pt_cmpR op_eq (pv 1) pe_str (nomark _)) (pe_op op_add pe_int (C8.pe_c C_draw hr (by decide) rfl (pa_cons (pv 0) (pa_cons pe_int pa_nil)))) (C8.pe_c C_pick hr (by decide) rfl (pa_cons (pv 0) (pa_cons (pe_lst (pa_cons pe_int (pa_cons pe_int (pa_cons pe_int (pa_cons pe_int (pa_cons pe_int pa_nil)))))) pa_nil))))))
      pss_nil)
      (pss_cons (ps_set (i := 3) sc_longTest.nd rfl (Or.inl rfl) (pe_tup (pa_cons (pv 1) (pa_cons (pv 2) (pa_cons pe_non (pa_cons pe_non (pa_cons pe_bl pa_nil)))))))
      (C8.pss_cut (ps_if (pt_cmpR op_eq (C8.pe_c C_draw hr (by decide) rfl (pa_cons (pv 0) (pa_cons pe_int pa_nil))) pe_int (nomark _))
      (pss_one (ps_set (i := 3) sc_longTest.nd rfl (Or.inl rfl) (pe_tup (pa_cons pe_str (pa_cons pe_non (pa_cons (pv 3) (pa_cons (pe_tup (pa_cons pe_str (pa_cons (C8.pe_c C_longWord hr (by decide) rfl (pa_cons (pv 0) pa_nil)) (pa_cons pe_non (pa_cons pe_non (pa_cons pe_bl pa_nil)))))) (pa_cons pe_bl pa_nil))))))))
      pss_nil)
      (pss_one (ps_ret (pe_op op_catT (pe_slice sl_tup (pv 3) po_none (po_some pe_int)) (pe_tup (pa_cons (pe_cmpR op_eq (C8.pe_c C_draw hr (by decide) rfl (pa_cons (pv 0) (pa_cons pe_int pa_nil))) pe_int (nomark _)) pa_nil)))))))))), ?_⟩

  obtain ⟨p, c, m, rfl, hp, hm, q⟩ := h
  refine ⟨_, rfl, szB (by decide), fun D hD => ?_⟩
  refine ⟨p, c, m, _, rfl, hp.new hD, by omega, .inr ⟨D, _, rfl, upd_same, by decide, by decide, fun H1 v k1 p1 hv => ?_⟩⟩
  obtain ⟨k, rfl, hk⟩ := long_w hv
  have ks1 : Ks H H1 := (Ks.new1 hD _).trans k1
  refine ⟨_, _, rfl, ?_⟩
  refine ⟨fun σ' H' => ∃ g, σ' = [some (.ref p), some (.str k), some g, none] ∧ PenAt H' p c (m + 2) ∧ Ks H H' ∧ ((isW k ∧ OkP (k, g)) ∨ ((k = "short" ∨ k = "number") ∧ g = .non) ∨ ((k = "all" ∨ k = "last") ∧ g = .non)), ?_, ?_⟩
  · refine ⟨_, rfl, szB (by decide), fun L hL => ?_⟩
    refine ⟨L, l4, rfl, .inl (SqL.of upd_same), rfl, by decide, _, rfl, ?_⟩
    have kL := ks1.new hL (.lst l4)
    have pL := p1.new (o := .lst l4) hL
    rcases hk with hk | hk | hk
    · rw [(cl_w hk).2.1]
      refine ify rfl ?_
      refine ⟨_, rfl, p, c, m + 1, rfl, pL, by omega, fun H2 t j1 j2 h1 h2 h3 => ?_⟩
      exact ⟨_, rfl, j2.mono (by omega), kL.trans j1, .inl ⟨hk, .wd hk h2 h3⟩⟩
    · rw [(cl_n hk).2.1]
      exact ifn rfl ⟨_, rfl, pL.mono (by omega), kL, .inr (.inl ⟨hk, rfl⟩)⟩
    · rw [(cl_b hk).2.1]
      exact ifn rfl ⟨_, rfl, pL.mono (by omega), kL, .inr (.inr ⟨hk, rfl⟩)⟩
  rintro σ' H2 ⟨g, rfl, p2, ks2, hk2⟩
  refine ⟨fun σ' H' => ∃ g, σ' = [some (.ref p), some (.str k), some g, none] ∧ PenAt H' p c (m + 3) ∧ Ks H H' ∧ OkP (k, g), ?_, ?_⟩
  · refine ⟨_, rfl, szB (by decide), fun L hL => ?_⟩
    refine ⟨L, l2, rfl, .inl (SqL.of upd_same), rfl, by decide, _, rfl, ?_⟩
    have kL := ks2.new hL (.lst l2)
    have pL := p2.new (o := .lst l2) hL
    rcases hk2 with ⟨hk, ok⟩ | ⟨hk, rfl⟩ | ⟨hk, rfl⟩
    · rw [(cl_w hk).2.2.1]
      exact ifn rfl ⟨_, rfl, pL.mono (by omega), kL, ok⟩
    · rw [(cl_n hk).2.2.1]
      refine ify rfl ?_
      rcases hk with rfl | rfl
      · refine ⟨_, rfl, rfl, _, rfl, ifn (decide_eq_false fun z => absurd (V.str.inj z) (by decide)) ?_⟩
        refine ⟨_, rfl, szB (by decide), fun M hM => ?_⟩
        refine ⟨p, c, m + 2, _, rfl, pL.new hM, by omega, .inr ⟨M, _, rfl, upd_same, by decide, by decide, fun H3 v j1 j2 hv => ?_⟩⟩
        obtain ⟨n, rfl, hn⟩ := long_n hv
        exact ⟨_, rfl, j2, kL.trans ((Ks.new1 hM _).trans j1), .sh hn⟩
      · refine ⟨_, rfl, rfl, _, rfl, ify (decide_eq_true rfl) ?_⟩
        refine ⟨_, rfl, p, c, m + 2, 6, rfl, pL, by omega, by decide, by decide, fun H3 r j1 j2 hr3 => ?_⟩
        refine ⟨_, _, rfl, rfl, _, rfl, j2, kL.trans j1, ?_⟩
        have e : (1 : Int) + (r : Int) = ((1 + r : Nat) : Int) := by omega
        show OkP ("number", .int ((1 : Int) + (r : Int)))
        rw [e]
        exact .nu (by omega) (by omega)
    · rw [(cl_b hk).2.2.1]
      exact ifn rfl ⟨_, rfl, pL.mono (by omega), kL, .ba hk⟩
  rintro σ' H3 ⟨g, rfl, p3, ks3, ok⟩
  refine ⟨_, rfl, _, rfl, szB (by show 5 ≤ 1000000; decide), fun a0 ha0 => ?_⟩
  have hA : (upd H3 a0 (.tup (cT (k, g) .non .non false))) a0 = some (.tup (cT (k, g) .non .non false)) := upd_same
  have kA := ks3.new ha0 (.tup (cT (k, g) .non .non false))
  have pA := p3.new (o := .tup (cT (k, g) .non .non false)) ha0
  refine ⟨fun σ' H' => ∃ (a : Addr) (t : Tst), σ' = [some (.ref p), some (.str k), some g, some (.ref a)] ∧ PenAt H' p c (m + 25) ∧ Ks H H' ∧ OkT t ∧ CkAt H' a t, ?_, ?_⟩
  · refine ⟨_, rfl, p, c, m + 3, 4, rfl, pA, by omega, by decide, by decide, fun H4 r k4 p4 hr4 => ?_⟩
    refine ⟨rfl, _, rfl, ?_⟩
    have hA4 := k4.tup hA
    refine ite2 (fun _ => ?_) (fun _ => ?_)
    · refine ⟨_, rfl, _, rfl, p, c, m + 4, rfl, p4, by omega, fun H5 w k5 p5 w1 w2 w3 => ?_⟩
      refine ⟨szB (by show 5 ≤ 1000000; decide), fun b hb => ?_⟩
      refine ⟨szB (by show 5 ≤ 1000000; decide), fun d hd => ?_⟩
      have hA5 := k5.tup hA4
      have nb := ne_of_none hA5 hb
      have hb5 : (upd H5 b (.tup (cT ("has", .str (S w)) .non .non false))) b = some (.tup (cT ("has", .str (S w)) .non .non false)) := upd_same
      refine ⟨d, .rg (k, g) ("has", .str (S w)) false, rfl, ((p5.new hb).new hd).mono (by omega), ((kA.trans (k4.trans k5)).new hb _).new hd _, ⟨ok, .wd (.inr (.inr (.inl rfl))) w2 w3⟩, a0, b, upd_same, ?_, ?_⟩
      · have z : (upd H5 b (.tup (cT ("has", .str (S w)) .non .non false))) a0 = some (.tup (cT (k, g) .non .non false)) := by rw [upd_ne nb]; exact hA5
        exact (upd_ne (ne_of_none z hd)).trans z
      · exact (upd_ne (ne_of_none hb5 hd)).trans hb5
    · exact ⟨a0, .pl (k, g) false, rfl, p4.mono (by omega), kA.trans k4, ok, hA4⟩
  rintro σ' H4 ⟨a2, t, rfl, p4, k4, ot, ck⟩
  obtain ⟨z2, x, y, h2, back⟩ := ck_l ck
  refine ⟨_, rfl, _, rfl, a2, _, rfl, SqT.of h2, (by show ¬ (HT.sIx 5 0 none = 0 ∧ HT.sIx 5 5 (some 4) = 5); decide), fun u hu => ?_⟩
  have ks5 := k4.new hu (.tup (cutV (cT z2 x y t.neg) none (some 4)))
  have tk5 : Tk H4 (upd H4 u (.tup (cutV (cT z2 x y t.neg) none (some 4)))) := (Ks.new1 hu _).tk
  have hu5 : (upd H4 u (.tup (cutV (cT z2 x y t.neg) none (some 4)))) u = some (.tup [.str z2.1, z2.2, x, y]) := upd_same
  have p5 : PenAt (upd H4 u (.tup (cutV (cT z2 x y t.neg) none (some 4)))) p c (m + 25) := p4.new hu
  generalize (upd H4 u (.tup (cutV (cT z2 x y t.neg) none (some 4)))) = H5 at ks5 tk5 hu5 p5 ⊢
  refine ⟨_, rfl, p, c, m + 25, 3, rfl, p5, by omega, by decide, by decide, fun H6 r k6 p6 hr6 => ?_⟩
  refine ⟨rfl, szB (by show 1 ≤ 1000000; decide), fun e he => ?_⟩
  have hu6 := k6.tup hu5
  refine ⟨u, e, [.str z2.1, z2.2, x, y], _, rfl, rfl, SqT.of (by rw [upd_ne (ne_of_none hu6 he)]; exact hu6), SqT.of upd_same, (fun z => nomatch z), szB (by show 4 + 1 ≤ 1000000; decide), (fun z => nomatch z), fun _ g' hg => ?_⟩
  exact q _ g' (t.sg _) (((ks5.trans k6).new he _).new hg _) (((p6.new he).new hg).mono (by omega)) (ot.sg _) (back _ _ g' (tk5.trans (k6.tk.trans ((Ks.new1 he _).new hg _).tk)) upd_same)

end
end Vf

set_option maxRecDepth 100000
set_option maxHeartbeats 4000000
namespace Vf
open PySem PySem.Spec PyProof.Rows L2 SX
section
variable {P : Program} {w : World} {K : PySem.W.Frag} {mg : Str → Option Value} {base : Heap}
theorem ok_testMadeP {f : Addr} {fd : FuncData} (F : C8.Def K mg "_law_test_made" s_testMade f fd) (b : Binds K fd ["_law_check"] []) (T : Tx K w mg) {CBadWord CBadNumber CL : Addr} (C_plainTest : CalX P w K mg base 4 "plain_test" (sp_plainTest K CL CBadWord CBadNumber)) (C_otherTest : CalX P w K mg base 3 "other_test" (sp_otherTest K CL CBadWord CBadNumber)) :
    C8.Cal P w K mg base 5 "_law_test_made" (sp_testMadeP CL) [] := by
  refine C8.cal0 F b .nil sc_testMade (fun vs H Q E h => ?_) (fun cdv A outer s H vs Q E hr h => ?_)
  · obtain ⟨a, p, n, rfl, _⟩ := h; rfl
  have hu := hu_of hr
  refine ⟨_, (pss_cons (ps_asg (pv 0) (pg_tup (by rfl) (pgs_cons (pg_name (i := 1) sc_testMade.nd rfl (Or.inl rfl)) (pgs_cons (pg_name (i := 2) sc_testMade.nd rfl (Or.inl rfl)) (pgs_cons (pg_name (i := 3) sc_testMade.nd rfl (Or.inl rfl)) (pgs_cons (pg_name (i := 4) sc_testMade.nd rfl (Or.inl rfl)) (pgs_cons (pg_name (i := 5) sc_testMade.nd rfl (Or.inl rfl)) pgs_nil)))))))
      (C8.pss_cut (ps_if (pt_cmpR op_eq (pv 1) pe_str (nomark _))
      (pss_one ps_never)
      (pss_one (ps_set (i := 6) sc_testMade.nd rfl (Or.inl rfl) (pe_cx0 C_plainTest hr (by decide) rfl (pa_cons (pv 1) (pa_cons (pv 2) pa_nil))))))
      (pss_one (ps_ret (pe_ifExp (pt_val (pv 5)) (pe_cx0 C_otherTest hr (by decide) rfl (pa_cons (pv 6) pa_nil)) (pv 6)))))), ?_⟩
  obtain ⟨a, p, n, rfl, ck, op, q⟩ := h
  refine ⟨_, rfl, a, _, rfl, SqT.of ck, rfl, _, _, rfl, _, _, rfl, _, _, rfl, _, _, rfl, _, _, rfl, rfl, ?_⟩
  refine ⟨fun σ' H' => ∃ o, σ' = [some (.ref a), some (.str p.1), some p.2, some .non, some .non, some (.bl n), some (.ref o)] ∧ PlAt CL H' o p false ∧ Same H H', ?_, ?_⟩
  · refine ⟨_, rfl, rfl, _, rfl, ifn (decide_eq_false fun z => op.nf (V.str.inj z)) ?_⟩
    exact ⟨_, rfl, _, rfl, .str p.1, p.2, none, rfl, .ok op, fun _ H' o k hk sm hpl => ⟨o, rfl, by cases hk; exact hpl, sm⟩, fun e h => nomatch h⟩
  rintro σ' H1 ⟨o, rfl, ⟨dx, ho⟩, sm⟩
  refine ⟨_, rfl, n, rfl, ?_⟩
  cases n with
  | true => exact ifT ⟨_, rfl, .ref o, rfl, .inr ⟨o, dx, p, _, _, rfl, ho, fun H' c dz s2 hc => q H' c (Same.trans sm s2) ⟨dz, hc⟩⟩⟩
  | false => exact ifF ⟨_, rfl, q H1 o sm ⟨dx, ho⟩⟩
theorem tst_sg (t : Tst) : t.sg t.neg = t := by cases t <;> rfl
theorem ok_testMade {f : Addr} {fd : FuncData} (F : C8.Def K mg "_law_test_made" s_testMade f fd) (b : Binds K fd ["_law_check"] []) (T : Tx K w mg) {CBadWord CBadNumber CL : Addr} (C_rangeTest : CalX P w K mg base 3 "range_test" (sp_rangeTest K CL CBadWord CBadNumber)) (C_testMade : C8.Cal P w K mg base 5 "_law_test_made" (sp_testMadeP CL) []) (C_plainTest : CalX P w K mg base 4 "plain_test" (sp_plainTest K CL CBadWord CBadNumber)) (C_otherTest : CalX P w K mg base 3 "other_test" (sp_otherTest K CL CBadWord CBadNumber)) :
    C8.Cal P w K mg base 6 "_law_test_made" (sp_testMade CL) [] := by
  refine C8.cal0 F b .nil sc_testMade (fun vs H Q E h => ?_) (fun cdv A outer s H vs Q E hr h => ?_)
  · obtain ⟨a, t, rfl, _⟩ := h; rfl
  have hu := hu_of hr
  refine ⟨_, (pss_cons (ps_asg (pv 0) (pg_tup (by rfl) (pgs_cons (pg_name (i := 1) sc_testMade.nd rfl (Or.inl rfl)) (pgs_cons (pg_name (i := 2) sc_testMade.nd rfl (Or.inl rfl)) (pgs_cons (pg_name (i := 3) sc_testMade.nd rfl (Or.inl rfl)) (pgs_cons (pg_name (i := 4) sc_testMade.nd rfl (Or.inl rfl)) (pgs_cons (pg_name (i := 5) sc_testMade.nd rfl (Or.inl rfl)) pgs_nil)))))))
      (C8.pss_cut (ps_if (pt_cmpR op_eq (pv 1) pe_str (nomark _))
      (pss_one (ps_set (i := 6) sc_testMade.nd rfl (Or.inl rfl) (pe_cx0 C_rangeTest hr (by decide) rfl (pa_cons (C8.pe_c C_testMade hr (by decide) rfl (pa_cons (pv 3) pa_nil)) (pa_cons (C8.pe_c C_testMade hr (by decide) rfl (pa_cons (pv 4) pa_nil)) pa_nil)))))
      (pss_one (ps_set (i := 6) sc_testMade.nd rfl (Or.inl rfl) (pe_cx0 C_plainTest hr (by decide) rfl (pa_cons (pv 1) (pa_cons (pv 2) pa_nil))))))
      (pss_one (ps_ret (pe_ifExp (pt_val (pv 5)) (pe_cx0 C_otherTest hr (by decide) rfl (pa_cons (pv 6) pa_nil)) (pv 6)))))), ?_⟩
  obtain ⟨a, t, rfl, ck, ot, q⟩ := h
  obtain ⟨z, x, y, hz, _⟩ := ck_l ck
  refine ⟨_, rfl, a, _, rfl, SqT.of hz, rfl, _, _, rfl, _, _, rfl, _, _, rfl, _, _, rfl, _, _, rfl, rfl, ?_⟩
  refine ⟨fun σ' H' => ∃ (o dx : Addr) (r : Pt) (u v : V), σ' = [some (.ref a), some (.str z.1), some z.2, some x, some y, some (.bl t.neg), some (.ref o)] ∧ H' o = some (.ins CL dx (tF r u v false)) ∧ Same H H' ∧ ∀ (b : Bool) (H'' : Hp) (c dz : Addr), Same H' H'' → H'' c = some (.ins CL dz (tF r u v b)) → TsAt CL H'' c (t.sg b), ?_, ?_⟩
  · match t, ck, ot, hz with
    | .pl p n, ck, op, hz =>
      have e : cT p .non .non n = cT z x y n := by
        have := ck.symm.trans hz
        exact HO.tup.inj (Option.some.inj this)
      have e1 : V.str p.1 = V.str z.1 := (List.cons.inj e).1
      have e2 : p.2 = z.2 := (List.cons.inj (List.cons.inj e).2).1
      have ez : z = p := Prod.ext (V.str.inj e1).symm e2.symm
      subst ez
      refine ⟨_, rfl, rfl, _, rfl, ifn (decide_eq_false fun w => op.nf (V.str.inj w)) ?_⟩
      exact ⟨_, rfl, _, rfl, .str z.1, z.2, none, rfl, .ok op, fun _ H' o k hk sm ⟨dx, ho⟩ => ⟨o, dx, z, .non, .non, rfl, by cases hk; exact ho, sm, fun b H'' c dz _ hc => ⟨dz, hc⟩⟩, fun e h => nomatch h⟩
    | .rg p p' n, ⟨b, c, h0, h1, h2⟩, ot, hz =>
      have e : cT ("from", .non) (.ref b) (.ref c) n = cT z x y n := HO.tup.inj (Option.some.inj (h0.symm.trans hz))
      have e1 : V.str "from" = V.str z.1 := (List.cons.inj e).1
      have e3 : V.ref b = x := (List.cons.inj (List.cons.inj (List.cons.inj e).2).2).1
      have e4 : V.ref c = y := (List.cons.inj (List.cons.inj (List.cons.inj (List.cons.inj e).2).2).2).1
      subst e3 e4
      have ez : z.1 = "from" := (V.str.inj e1).symm
      refine ⟨_, rfl, rfl, _, rfl, ify (decide_eq_true (by rw [ez])) ?_⟩
      refine ⟨_, rfl, b, p, false, rfl, h1, ot.1, fun H1 o1 s1 t1 => ?_⟩
      refine ⟨_, rfl, c, p', false, rfl, s1 _ _ h2, ot.2, fun H2 o2 s2 t2 => ?_⟩
      have t1' := PlAt.sm t1 s2
      obtain ⟨d1, g1⟩ := id t1'
      obtain ⟨d2, g2⟩ := id t2
      refine ⟨.ref o1, .ref o2, rfl, .inr ⟨o1, d1, p, _, _, rfl, g1, ot.1.nf, .inr ⟨o2, d2, p', _, _, rfl, g2, ot.2.nf, fun H3 o dz s3 ho => ?_⟩⟩⟩
      exact ⟨o, dz, ("from", .non), .ref o1, .ref o2, rfl, ho, Same.trans s1 (Same.trans s2 s3), fun b' H'' c' dz' sm hc => ⟨dz', o1, o2, hc, PlAt.sm (PlAt.sm t1' s3) sm, PlAt.sm (PlAt.sm t2 s3) sm⟩⟩
  rintro σ' H1 ⟨o, dx, r, u, v, rfl, ho, sm, back⟩
  refine ⟨_, rfl, t.neg, rfl, ?_⟩
  cases hn : t.neg with
  | true =>
    refine ifT ⟨_, rfl, .ref o, rfl, .inr ⟨o, dx, r, u, v, rfl, ho, fun H' c dz s2 hc => q H' c (Same.trans sm s2) ?_⟩⟩
    have := back true H' c dz s2 hc
    rw [← hn, tst_sg] at this
    exact this
  | false =>
    refine ifF ⟨_, rfl, q H1 o sm ?_⟩
    have := back false H1 o dx (fun _ _ z => z) ho
    rw [← hn, tst_sg] at this
    exact this

end
end Vf

set_option maxRecDepth 100000
set_option maxHeartbeats 4000000
namespace Vf
open PySem PySem.Spec PyProof.Rows L2 SX
section
variable {P : Program} {w : World} {K : PySem.W.Frag} {mg : Str → Option Value} {base : Heap}
theorem starts_cut (l y : Str) : decide (V.str (Txt.slice l none (some (y.length : Int))) = V.str y) = Txt.startswith l y := by
  have e1 : Txt.slice l none (some (y.length : Int)) = S (l.cps.toList.take y.length) := by
    have h := slice_to (a := l.cps.toList) (i := (y.length : Int)) (by omega)
    rw [S_tl] at h
    rw [h]
    rfl
  rw [e1]
  have hl : l.length = l.cps.toList.length := by show l.cps.size = _; simp
  have hy : y.length = y.cps.toList.length := by show y.cps.size = _; simp
  unfold Txt.startswith
  rw [PySem.StrLaws.subAt_eq, List.drop_zero]
  have iff : (V.str (S (l.cps.toList.take y.length)) = V.str y) ↔ (0 + y.length ≤ l.length ∧ l.cps.toList.take y.length = y.cps.toList) := by
    constructor
    · intro h
      have h2 : S (l.cps.toList.take y.length) = S y.cps.toList := (V.str.inj h).trans (S_tl y).symm
      have h3 := S_inj h2
      refine ⟨?_, h3⟩
      have := congrArg List.length h3
      rw [List.length_take] at this
      omega
    · rintro ⟨_, h⟩
      rw [h, S_tl]
  by_cases c : l.cps.toList.take y.length = y.cps.toList
  · by_cases d : 0 + y.length ≤ l.length
    · rw [decide_eq_true (iff.mpr ⟨d, c⟩), decide_eq_true d, c]
      simp
    · rw [decide_eq_false fun z => d (iff.mp z).1, decide_eq_false d, Bool.false_and]
  · rw [decide_eq_false fun z => c (iff.mp z).2, beq_eq_false_iff_ne.mpr c, Bool.and_false]
theorem last_at {i n : Nat} : decide (V.int (i : Int) = V.int ((n : Int) - 1)) = decide (V.int ((i : Int) + 1) = V.int (n : Int)) := decide_eq_decide.mpr ⟨fun z => by have := V.int.inj z; exact congrArg V.int (by omega), fun z => by have := V.int.inj z; exact congrArg V.int (by omega)⟩
theorem ok_lawPlainTruth {f : Addr} {fd : FuncData} (F : C8.Def K mg "_law_plain_truth" s_lawPlainTruth f fd) (b : Binds K fd ["_law_check", "_law_lines", "_law_k"] []) (T : Tx K w mg)  : C8.Cal P w K mg base 1 "_law_plain_truth" (sp_lawPlainTruth K) [] := by
  refine C8.cal0 F b .nil sc_lawPlainTruth (fun vs H Q E h => ?_) (fun cdv A outer s H vs Q E hr h => ?_)
  · obtain ⟨a, la, p, x, y, n, ls, i, rfl, _⟩ := h; rfl
  have hu := hu_of hr
  refine ⟨_, (pss_cons (ps_par (i := 3) (j := 4) (by rfl) sc_lawPlainTruth.nd rfl rfl (by decide) rfl rfl (pa_cons (pe_ix ix_tup (pv 0) pe_int (fun _ _ => rfl)) (pa_cons (pe_ix ix_tup (pv 0) pe_int (fun _ _ => rfl)) pa_nil)) (by rfl))
      (pss_cons (ps_set (i := 5) sc_lawPlainTruth.nd rfl (Or.inl rfl) (pe_ix ix_list (pv 1) (pv 2) (fun _ _ => rfl)))
      (pss_cons (ps_if (pt_cmpR op_in_seq (pv 3) (pe_lst (pa_cons pe_str (pa_cons pe_str pa_nil))) rfl)
      (pss_one (ps_ret (pe_or (pe_cmpR op_eq (pv 3) pe_str (nomark _)) (pe_one (pe_cmpR op_eq (pv 2) (pe_op op_sub (pe_callB call_len (by rfl) T.z_len PySem.boot_len (pa_cons (pv 1) pa_nil)) pe_int) (nomark _))))))
      pss_nil)
      (pss_cons (ps_if (pt_cmpR op_in_seq (pv 3) (pe_lst (pa_cons pe_str (pa_cons pe_str pa_nil))) rfl)
      (pss_one (ps_ret (pe_ifExp (pt_cmpR op_eq (pv 3) pe_str (nomark _)) (pe_cmpR op_eq (pe_slice C8.sl_txt (pv 5) po_none (po_some (pe_callB call_len (by rfl) T.z_len PySem.boot_len (pa_cons (pv 4) pa_nil)))) (pv 4) (nomark _)) (pe_bm PySem.F.plainAttrs_str PySem.F.slot_str_endswith PySem.F.type_str_endswith mt_endswith (pv 5) (pa_cons (pv 4) pa_nil)))))
      pss_nil)
      (pss_cons (ps_if (pt_cmpR op_in_seq (pv 3) (pe_lst (pa_cons pe_str (pa_cons pe_str pa_nil))) rfl)
      (pss_one (ps_ret (pe_ifExp (pt_cmpR op_eq (pv 3) pe_str (nomark _)) (pe_cmpR op_in_str (pv 4) (pv 5) rfl) (pe_cmpR op_eq (pv 5) (pv 4) (nomark _)))))
      pss_nil)
      (pss_one (ps_ret (pe_ifExp (pt_cmpR op_eq (pv 3) pe_str (nomark _)) (pe_cmpR op_le (pe_callB call_len (by rfl) T.z_len PySem.boot_len (pa_cons (pv 5) pa_nil)) (pv 4) (nomark _)) (pe_cmpR op_eq (pe_op op_add (pv 2) pe_int) (pv 4) (nomark _)))))))))), ?_⟩

  obtain ⟨a, la, p, x, y, n, ls, i, rfl, ha, op, hl, hz, hz2, hi, q⟩ := h
  obtain ⟨e1, e2⟩ := ls_at hi
  have l3 := hz2 _ (List.getElem_mem hi)
  generalize ls[i] = l at e1 e2 l3
  refine ⟨_, rfl, a, _, 0, _, rfl, rfl, SqT.of ha, rfl, _, rfl, a, _, 1, _, rfl, rfl, SqT.of ha, rfl, _, _, rfl, ?_⟩
  refine ⟨_, rfl, _, rfl, la, _, _, _, rfl, rfl, hl, e1, ?_⟩
  refine ⟨_, rfl, szB (by decide), fun L1 n1 => ?_⟩
  refine ⟨L1, lB, rfl, .inl (SqL.of upd_same), rfl, by decide, _, rfl, ?_⟩
  have s1 : Same H (upd H L1 (.lst lB)) := same_new (fun _ _ z => z) n1 _
  have hl1 : SqL K (upd H L1 (.lst lB)) la (ls.map V.str) := (Ks.of s1).seq hl
  rcases okp_cl op with ⟨hk, t, et, t1, t2⟩ | ⟨lo, hi', hk, j, ej, _, _⟩ | ⟨hk, eg⟩
  · rw [(cl_w hk).2.2.2]
    refine ifn rfl ?_
    refine ⟨_, rfl, szB (by decide), fun L2 n2 => ?_⟩
    refine ⟨L2, [.str "begins", .str "ends"], rfl, .inl (SqL.of upd_same), rfl, by decide, _, rfl, ?_⟩
    have s2 := same_new s1 n2 (.lst [.str "begins", .str "ends"])
    obtain ⟨k, g⟩ := p
    obtain rfl : g = .str (S t) := et
    rcases hk with hk | hk | hk | hk
    · obtain rfl : k = "begins" := hk
      refine ify rfl ?_
      rw [plT_begins e2] at q
      refine ⟨_, rfl, rfl, _, rfl, ify (decide_eq_true rfl) ?_⟩
      refine ⟨_, rfl, _, rfl, _, t.length, rfl, ⟨by rw [S_len]; exact szB (by omega), by rw [S_len]⟩, _, rfl, l, rfl, szB (by omega), _, rfl, rfl, ?_⟩
      have := q _ s2
      rw [← starts_cut, S_len] at this
      exact this
    · obtain rfl : k = "ends" := hk
      refine ify rfl ?_
      rw [plT_ends e2] at q
      refine ⟨_, rfl, rfl, _, rfl, ifn (decide_eq_false fun z => absurd (V.str.inj z) (by dsimp only; decide)) ?_⟩
      exact ⟨_, rfl, rfl, _, rfl, _, _, rfl, rfl, q _ s2⟩
    · obtain rfl : k = "has" := hk
      refine ifn rfl ?_
      refine ⟨_, rfl, szB (by decide), fun L3 n3 => ?_⟩
      refine ⟨L3, [.str "has", .str "is"], rfl, .inl (SqL.of upd_same), rfl, by decide, _, rfl, ify rfl ?_⟩
      rw [plT_has e2] at q
      refine ⟨_, rfl, rfl, _, rfl, ify (decide_eq_true rfl) ?_⟩
      exact ⟨_, rfl, _, rfl, _, _, rfl, rfl, q _ (same_new s2 n3 _)⟩
    · obtain rfl : k = "is" := hk
      refine ifn rfl ?_
      refine ⟨_, rfl, szB (by decide), fun L3 n3 => ?_⟩
      refine ⟨L3, [.str "has", .str "is"], rfl, .inl (SqL.of upd_same), rfl, by decide, _, rfl, ify rfl ?_⟩
      rw [plT_is e2] at q
      refine ⟨_, rfl, rfl, _, rfl, ifn (decide_eq_false fun z => absurd (V.str.inj z) (by dsimp only; decide)) ?_⟩
      exact ⟨_, rfl, _, rfl, rfl, q _ (same_new s2 n3 _)⟩
  · have hk2 : p.1 = "short" ∨ p.1 = "number" := hk.elim (fun z => .inl z.1) fun z => .inr z.1
    rw [(cl_n hk2).2.2.2]
    refine ifn rfl ?_
    refine ⟨_, rfl, szB (by decide), fun L2 n2 => ?_⟩
    refine ⟨L2, [.str "begins", .str "ends"], rfl, .inl (SqL.of upd_same), rfl, by decide, _, rfl, ?_⟩
    have s2 := same_new s1 n2 (.lst [.str "begins", .str "ends"])
    obtain ⟨k, g⟩ := p
    obtain rfl : g = .int j := ej
    rcases hk2 with hk | hk
    · obtain rfl : k = "short" := hk
      refine ifn rfl ?_
      refine ⟨_, rfl, szB (by decide), fun L3 n3 => ?_⟩
      refine ⟨L3, [.str "has", .str "is"], rfl, .inl (SqL.of upd_same), rfl, by decide, _, rfl, ifn rfl ?_⟩
      rw [plT_short e2] at q
      refine ⟨_, rfl, rfl, _, rfl, ify (decide_eq_true rfl) ?_⟩
      exact ⟨_, rfl, _, l.length, rfl, ⟨szB (by omega), rfl⟩, _, rfl, _, _, rfl, rfl, q _ (same_new s2 n3 _)⟩
    · obtain rfl : k = "number" := hk
      refine ifn rfl ?_
      refine ⟨_, rfl, szB (by decide), fun L3 n3 => ?_⟩
      refine ⟨L3, [.str "has", .str "is"], rfl, .inl (SqL.of upd_same), rfl, by decide, _, rfl, ifn rfl ?_⟩
      rw [plT_number] at q
      refine ⟨_, rfl, rfl, _, rfl, ifn (decide_eq_false fun z => absurd (V.str.inj z) (by dsimp only; decide)) ?_⟩
      exact ⟨_, rfl, _, _, rfl, rfl, _, rfl, rfl, q _ (same_new s2 n3 _)⟩
  · rw [(cl_b hk).2.2.2]
    refine ify rfl ?_
    obtain ⟨k, g⟩ := p
    obtain rfl : g = .non := eg
    rcases hk with hk | hk
    · obtain rfl : k = "all" := hk
      rw [plT_all] at q
      exact ⟨_, rfl, rfl, _, rfl, ify (decide_eq_true rfl) (q _ s1)⟩
    · obtain rfl : k = "last" := hk
      rw [plT_last, ← last_at] at q
      refine ⟨_, rfl, rfl, _, rfl, ifn (decide_eq_false fun z => absurd (V.str.inj z) (by dsimp only; decide)) ?_⟩
      exact ⟨_, rfl, _, rfl, _, ls.length, rfl, .inl ⟨_, hl1, by rw [List.length_map]⟩, _, _, rfl, rfl, rfl, q _ s1⟩

end
end Vf

set_option maxRecDepth 100000
set_option maxHeartbeats 4000000
namespace Vf
open PySem PySem.Spec PyProof.Rows L2 SX
section
variable {P : Program} {w : World} {K : PySem.W.Frag} {mg : Str → Option Value} {base : Heap}
def st (b e : Nat → Bool) : Nat → Bool
  | 0 => false
  | k + 1 => if st b e k then !e k else b k
theorem rg_r' (b e : Nat → Bool) : ∀ n s, rgT (st b e s) ((List.range' s n).map b) ((List.range' s n).map e) = (List.range' s n).map fun k => st b e k || b k
  | 0, _ => rfl
  | n + 1, s => congrArg ((st b e s || b s) :: ·) (rg_r' b e n (s + 1))
theorem rg_range (b e : Nat → Bool) (n : Nat) : rgT false ((List.range n).map b) ((List.range n).map e) = (List.range n).map fun k => st b e k || b k := by
  rw [List.range_eq_range']
  exact rg_r' b e n 0
theorem bne_bl' (a b : Bool) : (!decide (V.bl a = V.bl b)) = (a != b) := by cases a <;> cases b <;> rfl
theorem ok_lawTruths {f : Addr} {fd : FuncData} (F : C8.Def K mg "_law_truths" s_lawTruths f fd) (b : Binds K fd ["_law_check", "_law_lines"] []) (T : Tx K w mg) (C_lawPlainTruth : C8.Cal P w K mg base 1 "_law_plain_truth" (sp_lawPlainTruth K) []) : C8.Cal P w K mg base 2 "_law_truths" (sp_lawTruths K) [] := by
  refine C8.cal0 F b .nil sc_lawTruths (fun vs H Q E h => ?_) (fun cdv A outer s H vs Q E hr h => ?_)
  · obtain ⟨a, la, t, ls, rfl, _⟩ := h; rfl
  have hu := hu_of hr
  refine ⟨_, (pss_cons (ps_par (i := 2) (j := 3) (by rfl) sc_lawTruths.nd rfl rfl (by decide) rfl rfl (pa_cons (pe_lst pa_nil) (pa_cons pe_non pa_nil)) (by rfl))
      (pss_cons (ps_for PassesOwn.never rfl (pi_range1 (by rfl) T.z_range (pa_cons (pe_callB call_len (by rfl) T.z_len PySem.boot_len (pa_cons (pv 1) pa_nil)) pa_nil)) (pg_name (i := 4) sc_lawTruths.nd rfl (Or.inl rfl))
      (pss_cons (ps_if (pt_cmpR op_ne (pe_ix ix_tup (pv 0) pe_int (fun _ _ => rfl)) pe_str (nomark _))
      (pss_cons (ps_expr (pe_bm PySem.F.plainAttrs_list PySem.F.slot_list_append PySem.F.type_list_append mt_append (pv 2) (pa_cons (pe_cmpR op_ne (C8.pe_c C_lawPlainTruth hr (by decide) rfl (pa_cons (pv 0) (pa_cons (pv 1) (pa_cons (pv 4) pa_nil)))) (pe_ix ix_tup (pv 0) pe_int (fun _ _ => rfl)) (nomark _)) pa_nil)))
      (pss_one ps_continue))
      pss_nil)
      (C8.pss_cut (ps_if (PW.pt (pw_and (pt_cmpR op_isN (pv 3) pe_non (nomark _)) (pw_and1 (pt_val (C8.pe_c C_lawPlainTruth hr (by decide) rfl (pa_cons (pe_ix ix_tup (pv 0) pe_int (fun _ _ => rfl)) (pa_cons (pv 1) (pa_cons (pv 4) pa_nil))))))))
      (pss_one (ps_set (i := 3) sc_lawTruths.nd rfl (Or.inl rfl) (pv 4)))
      pss_nil)
      (pss_cons (ps_expr (pe_bm PySem.F.plainAttrs_list PySem.F.slot_list_append PySem.F.type_list_append mt_append (pv 2) (pa_cons (pe_cmpR op_ne (pe_cmpR op_notN (pv 3) pe_non (nomark _)) (pe_ix ix_tup (pv 0) pe_int (fun _ _ => rfl)) (nomark _)) pa_nil)))
      (pss_one (ps_if (PW.pt (pw_and (pt_cmpR op_notN (pv 3) pe_non (nomark _)) (pw_and (pt_cmpR op_lt (pv 3) (pv 4) (nomark _)) (pw_and1 (pt_val (C8.pe_c C_lawPlainTruth hr (by decide) rfl (pa_cons (pe_ix ix_tup (pv 0) pe_int (fun _ _ => rfl)) (pa_cons (pv 1) (pa_cons (pv 4) pa_nil)))))))))
      (pss_one (ps_set (i := 3) sc_lawTruths.nd rfl (Or.inl rfl) pe_non))
      pss_nil))))))
      (pss_one (ps_ret (pv 2))))), ?_⟩

  obtain ⟨a, la, t, ls, rfl, ck, ot, hl, h1, h2, q⟩ := h
  refine ⟨Nat.zero_le _, fun L nL => ?_⟩
  refine ⟨_, _, rfl, ?_⟩
  have hls : ∀ {H' : Hp}, Same H H' → SqL K H' la (ls.map V.str) := fun s => (Ks.of s).seq hl
  refine ⟨_, rfl, _, ls.length, rfl, .inl ⟨_, hls (same_new (fun _ _ z => z) nL _), by rw [List.length_map]⟩, _, rfl, by omega, by omega, ?_⟩
  rw [show ((ls.length : Int)).toNat = ls.length from Int.toNat_natCast _]
  match t, ck, ot, q with
  | .pl p n, ck, op, q =>
    have hck : H a = some (.tup (cT p .non .non n)) := ck
    refine for_range (lo := 0) (n := ls.length) (fun i σ H' => ∃ v4 : Option V, σ = [some (.ref a), some (.ref la), some (.ref L), some .non, v4] ∧ H' L = some (.lst (((List.range i).map fun k => plT p ls k != n).map V.bl)) ∧ Same H H') ⟨none, rfl, upd_same, same_new (fun _ _ z => z) nL _⟩ ?_ ?_
    · rintro i σ H' hi ⟨v4, rfl, hL, sm⟩
      rw [Int.zero_add]
      refine ⟨_, rfl, a, _, 0, _, rfl, rfl, SqT.of (sm _ _ hck), rfl, rfl, _, rfl, ?_⟩
      refine ify (by rw [decide_eq_false fun z => op.nf (V.str.inj z)]; rfl) ?_
      refine ⟨_, rfl, .inl ⟨rfl, _, SqL.of hL⟩, ?_⟩
      refine ⟨_, rfl, _, rfl, _, rfl, a, la, p, .non, .non, n, ls, i, rfl, sm _ _ hck, op, hls sm, h1, h2, hi, fun H1 s1 => ?_⟩
      refine ⟨_, rfl, a, _, 4, _, rfl, rfl, SqT.of (s1 _ _ (sm _ _ hck)), rfl, rfl, ?_⟩
      refine ⟨L, _, _, rfl, rfl, s1 _ _ hL, szL (by rw [List.length_map, List.length_map, List.length_range]; omega), ?_⟩
      exact ⟨_, rfl, by rw [upd_same, List.range_succ, List.map_append, List.map_append, bne_bl']; rfl, same_upd (Same.trans sm s1) nL _⟩
    · rintro σ H' ⟨v4, rfl, hL, sm⟩
      refine ⟨_, rfl, q H' L sm ?_⟩
      rw [hL]
      show _ = some (HO.lst ((((List.range ls.length).map (plT p ls)).map (· != n)).map V.bl))
      simp only [List.map_map]
      rfl
  | .rg p p' n, ck, op, q =>
    obtain ⟨b, c, h0, hb, hc⟩ := ck
    refine for_range (lo := 0) (n := ls.length) (fun i σ H' => ∃ (g : V) (v4 : Option V), σ = [some (.ref a), some (.ref la), some (.ref L), some g, v4] ∧ H' L = some (.lst (((List.range i).map fun k => ((st (plT p ls) (plT p' ls) k || plT p ls k) != n)).map V.bl)) ∧ Same H H' ∧ ((g = .non ∧ st (plT p ls) (plT p' ls) i = false) ∨ ∃ j : Nat, g = .int (j : Int) ∧ j < i ∧ st (plT p ls) (plT p' ls) i = true)) ⟨.non, none, rfl, upd_same, same_new (fun _ _ z => z) nL _, .inl ⟨rfl, rfl⟩⟩ ?_ ?_
    · rintro i σ H' hi ⟨g, v4, rfl, hL, sm, hg⟩
      rw [Int.zero_add]
      refine ⟨_, rfl, a, _, 0, _, rfl, rfl, SqT.of (sm _ _ h0), rfl, rfl, _, rfl, ?_⟩
      refine ifn rfl ?_
      refine ⟨fun σ' H'' => ∃ g' : V, σ' = [some (.ref a), some (.ref la), some (.ref L), some g', some (.int (i : Int))] ∧ H'' L = some (.lst (((List.range i).map fun k => ((st (plT p ls) (plT p' ls) k || plT p ls k) != n)).map V.bl)) ∧ Same H H'' ∧ ((g' = .non ∧ st (plT p ls) (plT p' ls) i = false ∧ plT p ls i = false) ∨ ∃ j : Nat, g' = .int (j : Int) ∧ (((st (plT p ls) (plT p' ls) i || plT p ls i) = true)) ∧ ((j < i ∧ st (plT p ls) (plT p' ls) i = true) ∨ (j = i ∧ st (plT p ls) (plT p' ls) i = false ∧ plT p ls i = true))), ?_, ?_⟩
      · rcases hg with ⟨rfl, e⟩ | ⟨j, rfl, hj, e⟩
        · refine ⟨_, rfl, rfl, _, rfl, ify (decide_eq_true rfl) ?_⟩
          refine ⟨_, rfl, a, _, 2, _, rfl, rfl, SqT.of (sm _ _ h0), rfl, ?_⟩
          refine ⟨_, rfl, _, rfl, b, la, p, .non, .non, false, ls, i, rfl, sm _ _ hb, op.1, hls sm, h1, h2, hi, fun H1 s1 => ?_⟩
          refine ⟨_, rfl, ?_⟩
          cases hp : plT p ls i with
          | true => exact ifT ⟨_, rfl, .int (i : Int), rfl, s1 _ _ hL, Same.trans sm s1, .inr ⟨i, rfl, by rw [e]; rfl, .inr ⟨rfl, e, rfl⟩⟩⟩
          | false => exact ifF ⟨.non, rfl, s1 _ _ hL, Same.trans sm s1, .inl ⟨rfl, e, rfl⟩⟩
        · refine ⟨_, rfl, rfl, _, rfl, ifn (decide_eq_false fun z => nomatch z) ?_⟩
          refine ifF ?_
          exact ⟨_, rfl, hL, sm, .inr ⟨j, rfl, by rw [e]; rfl, .inl ⟨hj, e⟩⟩⟩
      rintro σ' H1 ⟨g', rfl, hL1, sm1, hg'⟩
      refine ⟨_, rfl, .inl ⟨rfl, _, SqL.of hL1⟩, ?_⟩
      refine ⟨_, rfl, rfl, _, rfl, a, _, 4, _, rfl, rfl, SqT.of (sm1 _ _ h0), rfl, rfl, ?_⟩
      refine ⟨L, _, _, rfl, rfl, hL1, szL (by rw [List.length_map, List.length_map, List.length_range]; omega), ?_⟩
      have hL2 : (upd H1 L (.lst ((((List.range i).map fun k => ((st (plT p ls) (plT p' ls) k || plT p ls k) != n)).map V.bl) ++ [.bl (!decide (V.bl (!decide (g' = .non)) = V.bl n))]))) L = some (.lst (((List.range (i + 1)).map fun k => ((st (plT p ls) (plT p' ls) k || plT p ls k) != n)).map V.bl)) := by
        have eg : (!decide (g' = .non)) = (st (plT p ls) (plT p' ls) i || plT p ls i) := by
          rcases hg' with ⟨rfl, e1, e2⟩ | ⟨j, rfl, e1, _⟩
          · rw [e1, e2]; decide
          · rw [e1, decide_eq_false fun z => nomatch z]; rfl
        rw [upd_same, List.range_succ, List.map_append, List.map_append, bne_bl', eg]
        rfl
      have sm2 := same_upd sm1 nL (.lst ((((List.range i).map fun k => ((st (plT p ls) (plT p' ls) k || plT p ls k) != n)).map V.bl) ++ [.bl (!decide (V.bl (!decide (g' = .non)) = V.bl n))]))
      generalize (upd H1 L (.lst ((((List.range i).map fun k => ((st (plT p ls) (plT p' ls) k || plT p ls k) != n)).map V.bl) ++ [.bl (!decide (V.bl (!decide (g' = .non)) = V.bl n))]))) = H2 at hL2 sm2 ⊢
      rcases hg' with ⟨rfl, e1, e2⟩ | ⟨j, rfl, _, ⟨hj, e1⟩ | ⟨rfl, e1, e2⟩⟩
      · refine ⟨_, rfl, rfl, _, rfl, ifn rfl ?_⟩
        refine ifF ?_
        exact ⟨_, _, rfl, hL2, sm2, .inl ⟨rfl, by unfold st; rw [e1, e2]; rfl⟩⟩
      · refine ⟨_, rfl, rfl, _, rfl, ify (by rw [decide_eq_false fun z => nomatch z]; rfl) ?_⟩
        refine ⟨_, rfl, _, rfl, _, _, rfl, rfl, _, rfl, ify (decide_eq_true (by omega)) ?_⟩
        refine ⟨_, rfl, a, _, 3, _, rfl, rfl, SqT.of (sm2 _ _ h0), rfl, ?_⟩
        refine ⟨_, rfl, _, rfl, c, la, p', .non, .non, false, ls, i, rfl, sm2 _ _ hc, op.2, hls sm2, h1, h2, hi, fun H3 s3 => ?_⟩
        refine ⟨_, rfl, ?_⟩
        cases hp : plT p' ls i with
        | true => exact ifT ⟨.non, _, rfl, s3 _ _ hL2, Same.trans sm2 s3, .inl ⟨rfl, by unfold st; rw [e1, hp]; rfl⟩⟩
        | false => exact ifF ⟨_, _, rfl, s3 _ _ hL2, Same.trans sm2 s3, .inr ⟨j, rfl, by omega, by unfold st; rw [e1, hp]; rfl⟩⟩
      · refine ⟨_, rfl, rfl, _, rfl, ify (by rw [decide_eq_false fun z => nomatch z]; rfl) ?_⟩
        refine ⟨_, rfl, _, rfl, _, _, rfl, rfl, _, rfl, ifn (decide_eq_false (by omega)) ?_⟩
        refine ifF ?_
        exact ⟨_, _, rfl, hL2, sm2, .inr ⟨j, rfl, by omega, by unfold st; rw [e1, e2]; rfl⟩⟩
    · rintro σ H' ⟨g, v4, rfl, hL, sm, _⟩
      refine ⟨_, rfl, q H' L sm ?_⟩
      rw [hL]
      show _ = some (HO.lst (((rgT false ((List.range ls.length).map (plT p ls)) ((List.range ls.length).map (plT p' ls))).map (· != n)).map V.bl))
      rw [rg_range]
      simp only [List.map_map]
      rfl

end
end Vf

set_option maxRecDepth 100000
set_option maxHeartbeats 4000000
namespace Vf
open PySem PySem.Spec PyProof.Rows L2 SX
section
variable {P : Program} {w : World} {K : PySem.W.Frag} {mg : Str → Option Value} {base : Heap}
theorem eqv_vD {p : Pt} (h : OkP p) : PyData.eqv (vD p.2) (vD p.2) = true := by
  rcases okp_cl h with ⟨_, l, e, _⟩ | ⟨_, _, _, j, e, _⟩ | ⟨_, e⟩ <;> rw [e] <;> simp [vD, PyData.eqv]
theorem eqT_self {p : Pt} (h : OkP p) (n : Bool) : eqT (.pl p n) (.pl p n) = true := by
  rw [eqT_pl, eqv_vD h, decide_eq_true rfl, decide_eq_true rfl]; rfl
theorem w_ok {k : Str} (h : isW k ∨ k = "short" ∨ k = "number" ∨ k = "all" ∨ k = "last" ∨ k = "from") : PyData.strOk k = true := by
  rcases h with (h | h | h | h) | h | h | h | h | h <;> subst h <;> decide +kernel
theorem okp_w {p : Pt} (h : OkP p) : PyData.strOk p.1 = true := by
  rcases okp_cl h with ⟨z, _⟩ | ⟨_, _, z, _⟩ | ⟨z, _⟩
  · exact w_ok (.inl z)
  · exact w_ok (.inr (z.elim (fun z => .inl z.1) fun z => .inr (.inl z.1)))
  · exact w_ok (.inr (.inr (.inr (z.elim .inl fun z => .inr (.inl z)))))
theorem shap3 {a b : PyData} {n : Bool} (ha : PyData.canLay0 a = true) (hb : PyData.canLay0 b = true) (da : a.depth ≤ 1) (db : b.depth ≤ 1) : SeqAt.shaped (.list [a, b, .bool n]) = true := by
  simp [SeqAt.shaped, PyData.canLay0, PyData.canLayAll0, PyData.depth, PyData.depthAll, ha, hb]
  omega
theorem sd_vD {p : Pt} (h : OkP p) : PyData.canLay0 (vD p.2) = true ∧ (vD p.2).depth ≤ 1 := by
  refine ⟨SeqAt.canLay_of_shaped (sc_dp (K := default) (H := fun _ => none) h).2, ?_⟩
  rcases okp_cl h with ⟨_, l, e, _⟩ | ⟨_, _, _, j, e, _⟩ | ⟨_, e⟩ <;> rw [e] <;> simp [vD, PyData.depth]
theorem sh_str {k : Str} (h : PyData.strOk k = true) : PyData.canLay0 (.str k) = true ∧ (PyData.str k).depth ≤ 1 := by simp [PyData.canLay0, PyData.depth, h]
theorem eqv3 {a : Str} {b : PyData} {n : Bool} (h : PyData.eqv b b = true) : PyData.eqv (.list [.str a, b, .bool n]) (.list [.str a, b, .bool n]) = true := by simp [PyData.eqv, PyData.eqvAll, h]
/-- two lists of the same three are the same -/
theorem ne_three {K : PySem.W.Frag} {H1 : Hp} {L1 L2 : Addr} {k : Str} {v : V} {n : Bool} {d : PyData} (hk : PyData.strOk k = true) (hd : ∀ H, Dp K H v d) (hc : PyData.canLay0 d = true ∧ d.depth ≤ 1) (he : PyData.eqv d d = true) (n1 : H1 L1 = none) (n2 : upd H1 L1 (.lst [.str k, v, .bl n]) L2 = none) :
    Dp K (upd (upd H1 L1 (.lst [.str k, v, .bl n])) L2 (.lst [.str k, v, .bl n])) (.ref L1) (.list [.str k, d, .bool n]) ∧ Dp K (upd (upd H1 L1 (.lst [.str k, v, .bl n])) L2 (.lst [.str k, v, .bl n])) (.ref L2) (.list [.str k, d, .bool n]) ∧ SeqAt.shaped (.list [.str k, d, .bool n]) = true ∧ PyData.eqv (.list [.str k, d, .bool n]) (.list [.str k, d, .bool n]) = true := by
  have a : DpAll K (upd (upd H1 L1 (.lst [.str k, v, .bl n])) L2 (.lst [.str k, v, .bl n])) [.str k, v, .bl n] [.str k, d, .bool n] := .cons (.str _) (.cons (hd _) (.cons (.bl _) .nil))
  exact ⟨.lst (SqL.of (by show upd _ L2 _ L1 = _; rw [upd_ne (ne_of_none (upd_same) n2)]; exact upd_same)) a, .lst (SqL.of upd_same) a, shap3 (sh_str hk).1 hc.1 (sh_str hk).2 hc.2, eqv3 he⟩
theorem ok_isMadeRight {f : Addr} {fd : FuncData} (F : C8.Def K mg "_law_is_made_right" s_isMadeRight f fd) (b : Binds K fd ["_law_check"] []) (T : Tx K w mg) {CL : Addr} (A0 : Ca K CL) (EQ : Eqc P w K mg base 2 CL (EqR CL)) (C_testMade : C8.Cal P w K mg base 6 "_law_test_made" (sp_testMade CL) []) : C8.Cal P w K mg base 7 "_law_is_made_right" (sp_isMadeRight CL) [] := by
  refine C8.cal0 F b .nil sc_isMadeRight (fun vs H Q E h => ?_) (fun cdv A outer s H vs Q E hr h => ?_)
  · obtain ⟨a, t, rfl, _⟩ := h; rfl
  have hu := hu_of hr
  refine ⟨_, (pss_cons (ps_par (i := 1) (j := 2) (by rfl) sc_isMadeRight.nd rfl rfl (by decide) rfl rfl (pa_cons (C8.pe_c C_testMade hr (by decide) rfl (pa_cons (pv 0) pa_nil)) (pa_cons (pe_ix ix_tup (pv 0) pe_int (fun _ _ => rfl)) pa_nil)) (by rfl))
      (pss_cons (ps_if (pt_cmpR (op_neD hr.units) (pe_lst (pa_cons (pe_fld (pv 1) rfl) (pa_cons (pe_fld (pv 1) rfl) (pa_cons (pe_fld (pv 1) rfl) pa_nil)))) (pe_lst (pa_cons (pv 2) (pa_cons (pe_ix ix_tup (pv 0) pe_int (fun _ _ => rfl)) (pa_cons (pe_ix ix_tup (pv 0) pe_int (fun _ _ => rfl)) pa_nil)))) (nomark _))
      (pss_one (ps_ret pe_bl))
      pss_nil)
      (pss_cons (ps_if (pt_cmpR op_ne (pv 2) pe_str (nomark _))
      (pss_one (ps_ret (pe_and (pe_cmpR op_isN (pe_fld (pv 1) rfl) pe_non (nomark _)) (pe_one (pe_cmpR op_isN (pe_fld (pv 1) rfl) pe_non (nomark _))))))
      pss_nil)
      (pss_one (ps_ret (pe_and (pe_cmpR (op_eqC EQ hr (by decide)) (pe_fld (pv 1) rfl) (C8.pe_c C_testMade hr (by decide) rfl (pa_cons (pe_ix ix_tup (pv 0) pe_int (fun _ _ => rfl)) pa_nil)) (nomark _)) (pe_one (pe_cmpR (op_eqC EQ hr (by decide)) (pe_fld (pv 1) rfl) (C8.pe_c C_testMade hr (by decide) rfl (pa_cons (pe_ix ix_tup (pv 0) pe_int (fun _ _ => rfl)) pa_nil)) (nomark _))))))))), ?_⟩

  obtain ⟨a, t, rfl, ck, ot, q⟩ := h
  refine ⟨_, rfl, a, t, rfl, ck, ot, fun H1 o s1 ht => ?_⟩
  have cl := A0.i.cl
  match t, ck, ot, ht with
  | .pl p n, ck, op, ⟨dx, ho⟩ =>
    have hck : H1 a = some (.tup (cT p .non .non n)) := s1 _ _ ck
    refine ⟨_, rfl, a, _, 0, _, rfl, rfl, SqT.of hck, rfl, _, _, rfl, ?_⟩
    refine ⟨_, rfl, o, CL, dx, _, _, rfl, ho, cl, A0.a1, rfl, _, rfl, o, CL, dx, _, _, rfl, ho, cl, A0.a2, rfl, _, rfl, o, CL, dx, _, _, rfl, ho, cl, A0.a5, rfl, szB (by show 3 ≤ 1000000; decide), fun L1 n1 => ?_⟩
    have s2 := same_new s1 n1 (.lst [.str p.1, p.2, .bl n])
    have hck2 := s2 _ _ ck
    have ho2 := same_new (fun _ _ z => z) n1 (.lst [.str p.1, p.2, .bl n]) _ _ ho
    refine ⟨_, rfl, _, rfl, a, _, 1, _, rfl, rfl, SqT.of hck2, rfl, _, rfl, a, _, 4, _, rfl, rfl, SqT.of hck2, rfl, szB (by show 3 ≤ 1000000; decide), fun L2 n2 => ?_⟩
    have D := ne_three (K := K) (n := n) (okp_w op) (fun H => (sc_dp op).1) (sd_vD op) (eqv_vD op) n1 n2
    refine ⟨_, _, D.1, D.2.1, D.2.2.1, D.2.2.1, ?_⟩
    rw [D.2.2.2]
    refine ⟨_, rfl, ifn rfl ?_⟩
    have s3 := same_new s2 n2 (.lst [.str p.1, p.2, .bl n])
    have ho3 := same_new (fun _ _ z => z) n2 (.lst [.str p.1, p.2, .bl n]) _ _ ho2
    refine ⟨_, rfl, rfl, _, rfl, ify (by rw [decide_eq_false fun z => op.nf (V.str.inj z)]; rfl) ?_⟩
    refine ⟨_, rfl, o, CL, dx, _, _, rfl, ho3, cl, A0.a3, rfl, rfl, _, rfl, ifT ?_⟩
    exact ⟨_, rfl, o, CL, dx, _, _, rfl, ho3, cl, A0.a4, rfl, rfl, q _ s3⟩
  | .rg p p' n, ⟨b, c, h0, hb, hc⟩, op, ⟨dx, b', c', ho, ho1, ho2⟩ =>
    have hck : H1 a = some (.tup (cT ("from", .non) (.ref b) (.ref c) n)) := s1 _ _ h0
    refine ⟨_, rfl, a, _, 0, _, rfl, rfl, SqT.of hck, rfl, _, _, rfl, ?_⟩
    refine ⟨_, rfl, o, CL, dx, _, _, rfl, ho, cl, A0.a1, rfl, _, rfl, o, CL, dx, _, _, rfl, ho, cl, A0.a2, rfl, _, rfl, o, CL, dx, _, _, rfl, ho, cl, A0.a5, rfl, szB (by show 3 ≤ 1000000; decide), fun L1 n1 => ?_⟩
    have s2 := same_new s1 n1 (.lst [.str "from", .non, .bl n])
    have t2 : Same H1 _ := same_new (fun _ _ z => z) n1 (.lst [.str "from", .non, .bl n])
    have hck2 := s2 _ _ h0
    refine ⟨_, rfl, _, rfl, a, _, 1, _, rfl, rfl, SqT.of hck2, rfl, _, rfl, a, _, 4, _, rfl, rfl, SqT.of hck2, rfl, szB (by show 3 ≤ 1000000; decide), fun L2 n2 => ?_⟩
    have D := ne_three (K := K) (n := n) (w_ok (k := "from") (.inr (.inr (.inr (.inr (.inr rfl)))))) (fun H => .non) ⟨rfl, by decide⟩ rfl n1 n2
    refine ⟨_, _, D.1, D.2.1, D.2.2.1, D.2.2.1, ?_⟩
    rw [D.2.2.2]
    refine ⟨_, rfl, ifn rfl ?_⟩
    have s3 := same_new s2 n2 (.lst [.str "from", .non, .bl n])
    have t3 := same_new t2 n2 (.lst [.str "from", .non, .bl n])
    refine ⟨_, rfl, rfl, _, rfl, ifn rfl ?_⟩
    generalize upd (upd H1 L1 (.lst [.str "from", .non, .bl n])) L2 (.lst [.str "from", .non, .bl n]) = H3 at s3 t3 ⊢
    refine ⟨_, rfl, o, CL, dx, _, _, rfl, t3 _ _ ho, cl, A0.a3, rfl, _, rfl, a, _, 2, _, rfl, rfl, SqT.of (s3 _ _ h0), rfl, ?_⟩
    refine ⟨b, .pl p false, rfl, s3 _ _ hb, op.1, fun H4 x1 s4 hx1 => ?_⟩
    have hb4 : PlAt CL H4 b' p false := PlAt.sm ho1 (Same.trans t3 s4)
    obtain ⟨e1, g1⟩ := id hb4
    obtain ⟨e2, g2⟩ := id hx1
    refine ⟨b', x1, _, e1, e2, _, _, rfl, rfl, g1, g2, ⟨.pl p false, .pl p false, hb4, hx1, op.1, op.1, rfl⟩, fun H5 s5 => ?_⟩
    rw [eqT_self op.1]
    refine ⟨_, rfl, ifT ?_⟩
    have s6 := Same.trans s4 s5
    refine ⟨_, rfl, o, CL, dx, _, _, rfl, s6 _ _ (t3 _ _ ho), cl, A0.a4, rfl, _, rfl, a, _, 3, _, rfl, rfl, SqT.of (s6 _ _ (s3 _ _ h0)), rfl, ?_⟩
    refine ⟨c, .pl p' false, rfl, s6 _ _ (s3 _ _ hc), op.2, fun H7 x2 s7 hx2 => ?_⟩
    have hc4 : PlAt CL H7 c' p' false := PlAt.sm ho2 (Same.trans (Same.trans t3 s6) s7)
    obtain ⟨e3, g3⟩ := id hc4
    obtain ⟨e4, g4⟩ := id hx2
    refine ⟨c', x2, _, e3, e4, _, _, rfl, rfl, g3, g4, ⟨.pl p' false, .pl p' false, hc4, hx2, op.2, op.2, rfl⟩, fun H8 s8 => ?_⟩
    rw [eqT_self op.2]
    exact q _ (Same.trans s3 (Same.trans s6 (Same.trans s7 s8)))

end
end Vf

set_option maxRecDepth 100000
set_option maxHeartbeats 4000000
namespace Vf
open PySem PySem.Spec PyProof.Rows L2 SX
section
variable {P : Program} {w : World} {K : PySem.W.Frag} {mg : Str → Option Value} {base : Heap}
open LamX
/-- what the caught error makes the def answer -/
def CaughtE (CB CN : Addr) (cls : Value) (d : Option Addr) (H : Hp) (Q : VK) : Prop := ∃ dd, d = some dd ∧
  ((cls = .ref CB ∧ ∃ k : Str, H dd = some (.xd [("what", .str k)]) ∧ ∀ p, H p = none → Q (.ref p) (upd H p (.tup [.str "word", .str k, .bl true]))) ∨
   (cls = .ref CN ∧ ∃ (k : Str) (v : V), H dd = some (.xd [("number", v), ("what", .str k)]) ∧ ScR v ∧ ∀ p, H p = none → Q (.ref p) (upd H p (.tup [.str k, .str (reprV v), .bl true]))))
def TTref (CB CN : Addr) : (XK → Hp → VK → Prop) → Hp → VK → Prop := fun tl H Q => tl (fun cls d H' => CaughtE CB CN cls d H' Q) H fun _ H' => Q .non H'
theorem takes_len {X : Cx} {W : WX} (tk : Takes X W) : Takes X (fun cls d σ H => σ.length = X.N.length → W cls d σ H) := fun u s' x => by
  obtain ⟨a, B, sI, pins, σ', H', cls, d, e, J, nb, up, sky, na, os, ag, w⟩ := x
  exact tk u s' ⟨a, B, sI, pins, σ', H', cls, d, e, J, nb, up, sky, na, os, ag, w J.len⟩
theorem refused_gives {X : Cx} {CB CN CW : Addr} (ES : Es X.prog X.w X.K X.mg X.base CB CN CW) (T : Tx X.K X.w X.mg) {g : Addr} {cdg : Value} {q : Str} : GivesTo X N_refused "_law_refused" (C8.fnScope s_refused) g cdg (C8.fnBody s_refused) "_law_action" q (TTref CB CN) := by
  intro f c' s H Q tl act hc h
  refine ⟨_, (pss_cons (ps_try_ma (X := (cxOf C8.CX0 X.prog X.w X.K X.mg X.base N_refused "_law_refused" (C8.fnScope s_refused) g cdg X.A X.stack s H C8.E0).nox) (i := 1) (tb := fun W D σ H => ∃ Ech : XK, (∀ cls d (σ' : L2.St) H', Ech cls d H' → σ'.length = 2 → W cls d σ' H') ∧ σ[0]? = some (some (.ref f)) ∧ H c' = some (CodeO c' q) ∧ tl Ech H fun _ H' => D.nx σ H')
      rfl rfl sc_refused.nd rfl rfl L2.takes0 (fun W pn xe tk _ => ?_)
      (HdsA.cons ⟨rfl, by decide, .inl ES.r_BadWord.rc.g⟩ (fun a oe cls d pn hz hf => (pss_one (ps_ret (pe_tup (pa_cons pe_str (pa_cons (pe_xf (ES.r_BadWord.rc.x) (ES.r_BadWord.no "what" (by simp)) hz hf (pv 1)) (pa_cons (pe_callB (call_isE2 hz hf) (by rfl) T.z_isinstance (by decide +kernel) (pa_cons (pv 1) (pa_cons (pe_cls (ES.g_WorkshopError) rfl) pa_nil))) pa_nil))))))) (HdsA.cons ⟨rfl, by decide, .inl ES.r_BadNumber.rc.g⟩ (fun a oe cls d pn hz hf => (pss_one (ps_ret (pe_tup (pa_cons (pe_xf (ES.r_BadNumber.rc.x) (ES.r_BadNumber.no "what" (by simp)) hz hf (pv 1)) (pa_cons (pe_callB call_reprS (by rfl) T.z_repr (by decide +kernel) (pa_cons (pe_xf (ES.r_BadNumber.rc.x) (ES.r_BadNumber.no "number" (by simp)) hz hf (pv 1)) pa_nil)) (pa_cons (pe_callB (call_isE2 hz hf) (by rfl) T.z_isinstance (by decide +kernel) (pa_cons (pv 1) (pa_cons (pe_cls (ES.g_WorkshopError) rfl) pa_nil))) pa_nil))))))) HdsA.nil)))
      (pss_one (ps_ret pe_non))), ?_⟩
  · refine ⟨fun pins s' σ H' D I h' => ?_⟩
    obtain ⟨Ech, hW, h1, h2, h3⟩ := h'
    refine (pss_one (ps_expr (act _ pn xe Ech _ _ (takes_len tk) fun cls d σ' H' e l => hW cls d σ' H' e l))).run pins s' σ H' D I ⟨h1, h2, h3⟩
  · refine ⟨fun cls d H' => CaughtE CB CN cls d H' Q, ?_, rfl, hc, h⟩
    rintro cls d σ' H' ⟨dd, rfl, ⟨rfl, k, hd, q⟩ | ⟨rfl, k, v, hd, hv, q⟩⟩ hl
    · refine ⟨true, ES.x.bb, fun _ a ha => ?_, fun z => nomatch z⟩
      match σ', hl with
      | [u0, u1], _ =>
        refine ⟨_, rfl, rfl, rfl, dd, _, _, rfl, hd, rfl, _, rfl, CB, dd, _, _, _, true, rfl, rfl, hd, rfl, ES.x.eb, (fun u r => r), ES.x.kb, szB (by show 3 ≤ 1000000; decide), fun p hp => ?_⟩
        exact q p hp
    · refine ⟨false, ES.x.nb, (fun z => nomatch z), fun _ => ⟨true, ES.x.nn, fun _ a ha => ?_, fun z => nomatch z⟩⟩
      match σ', hl with
      | [u0, u1], _ =>
        refine ⟨_, rfl, rfl, rfl, dd, _, _, rfl, hd, rfl, _, rfl, rfl, rfl, dd, _, _, rfl, hd, rfl, v, rfl, hv, _, rfl, CN, dd, _, _, _, true, rfl, rfl, hd, rfl, ES.x.en, (fun u r => r), ES.x.kn, szB (by show 3 ≤ 1000000; decide), fun p hp => ?_⟩
        exact q p hp

end
end Vf

set_option maxRecDepth 100000
set_option maxHeartbeats 4000000
namespace Vf
open PySem PySem.Spec PyProof.Rows L2 SX
section
variable {P : Program} {w : World} {K : PySem.W.Frag} {mg : Str → Option Value} {base : Heap}
open LamX
abbrev lamQ : Str := ("_law_are_refused" ++ ".<locals>." : Str) ++ "<lambda>"
structure Rf (P : Program) (w : World) (K : PySem.W.Frag) (mg : Str → Option Value) (base : Heap) (CB CN CW cc P0 : Addr) : Prop where
  ES : Es P w K mg base CB CN CW
  df : ∃ g fd, C8.Def K mg "_law_refused" s_refused g fd ∧ Binds K fd ["_law_action"] []
  tb : TabB base mg cc P0
theorem pe_refd {X : Cx} {CB CN CW cc P0 : Addr} {k j : Nat} {params : Arguments} {body : Expr} {scope : Scope} {t : XK → TE} {p lpos pos : Pos} (RF : Rf X.prog X.w X.K X.mg X.base CB CN CW cc P0) (T : Tx X.K X.w X.mg) (hcode : X.env.code = .ref cc) (hq : X.env.qual ++ "<lambda>" = lamQ)
    (hr : Room j X.A) (hj : k + 2 ≤ j) (L : LamS X.env.scope scope) (hdef : defaultsOf params X.env = ([], []))
    (hbind : ∀ (q : Str) (cl : List (Str × Addr)) (pm cv ctv : Value), bindArgs (PySem.W.kla_fn "<lambda>" q params body scope cl pm cv ctv) ⟨[], []⟩ = pure [])
    (hbody : ∀ (A : Around) (outer : List Env) (s : Shared) (H : Hp) (E : XK) (f c' : Addr), Room k (A.deeper (lamEnv X scope s.heap.objs.size f c')) → PE (lamCx X A outer s H E scope f c') body (t E)) (hg : Gl X "_law_refused" := by rfl) :
    PE X (.Call (.Name "_law_refused" p) [.Lambda params body scope lpos] [] pos) (tLam [(P0, lamQ)] (TTref CB CN) t) := by
  obtain ⟨g, fd, F, b⟩ := RF.df
  obtain ⟨oc, od, dV, kV, dc, pm, an, c, ct, sl, rfl, lk, hc⟩ := F.fn.ex
  exact pe_lamcall hg F.mgf F.kp lk hc b sc_refused rfl (Or.inl rfl) (refused_gives RF.ES T) RF.tb hcode (by rw [hq]; exact List.mem_singleton.mpr rfl) (fun p hp _ => by rw [List.mem_singleton.mp hp]; exact hq.symm) (hr.mono hj) L hdef hbind hbody
theorem PenAt.ext {H H1 : Hp} {p c : Addr} {m : Nat} (h : PenAt H p c m) (e : ExtN H H1) : PenAt H1 p c m := by
  obtain ⟨ns, a, d, t, f, h1, h2, r⟩ := h
  exact ⟨ns, a, d, t, f, e _ _ h1 (fun _ z => nomatch z), e _ _ h2 (fun _ z => nomatch z), r⟩
theorem PlAt.ext {C : Addr} {H H1 : Hp} {a : Addr} {p : Pt} {n : Bool} (h : PlAt C H a p n) (e : ExtN H H1) : PlAt C H1 a p n := let ⟨dx, z⟩ := h; ⟨dx, e _ _ z (fun _ z => nomatch z)⟩
theorem tabs_ks {T : List (Addr × Str)} {H H' : Hp} (t : Tabs T H) (k : Ks H H') : Tabs T H' := fun p hp => by
  obtain ⟨ps, h1, h2, h3⟩ := t p hp
  refine ⟨ps, k.1 _ _ h1 (fun _ z => nomatch z), h2, fun pos cv hc => ?_⟩
  obtain ⟨c, e1, e2⟩ := h3 pos cv hc
  exact ⟨c, e1, k.1 _ _ e2 (fun _ z => by unfold CodeO at z; cases z)⟩
theorem tabs_upd {T : List (Addr × Str)} {H : Hp} {L : Addr} {xs : List V} {o : HO} (t : Tabs T H) (h : H L = some (.lst xs)) : Tabs T (upd H L o) := fun p hp => by
  obtain ⟨ps, h1, h2, h3⟩ := t p hp
  refine ⟨ps, by rw [upd_ne fun z => by rw [z, h] at h1; cases h1]; exact h1, h2, fun pos cv hc => ?_⟩
  obtain ⟨c, e1, e2⟩ := h3 pos cv hc
  exact ⟨c, e1, by rw [upd_ne fun z => by rw [z, h] at e2; unfold CodeO at e2; cases e2]; exact e2⟩
/-- the error caught is told so -/
theorem caught {CB CN : Addr} {H1 : Hp} {e : Er} {Q : VK} (he : ∀ w v, e = .num w v → ScR v) (q : ∀ (H' : Hp) (p : Addr), Same H1 H' → H' p = none → Q (.ref p) (upd H' p (.tup (match e with | .word w => [.str "word", .str w, .bl true] | .num w v => [.str w, .str (reprV v), .bl true])))) : ErAt CB CN H1 e (fun cls d H' => CaughtE CB CN cls d H' Q) := by
  intro d H' sm hd
  cases e with
  | word w => exact ⟨d, rfl, .inl ⟨rfl, w, hd, fun p hp => q H' p sm hp⟩⟩
  | num w v => exact ⟨d, rfl, .inr ⟨rfl, w, v, hd, he _ _ rfl, fun p hp => q H' p sm hp⟩⟩
theorem eqv3t (a b : Str) : PyData.eqv (.tuple [.str a, .str b, .bool true]) (.tuple [.str a, .str b, .bool true]) = true := by simp [PyData.eqv, PyData.eqvAll]
theorem sh3t {a b : Str} (h1 : PyData.strOk a = true) (h2 : PyData.strOk b = true) : SeqAt.shaped (.tuple [.str a, .str b, .bool true]) = true := by
  simp [SeqAt.shaped, PyData.canLay0, PyData.canLayAll0, PyData.depth, PyData.depthAll, h1, h2]
theorem dp3t {K : PySem.W.Frag} {H : Hp} {p : Addr} {a b : Str} (h : H p = some (.tup [.str a, .str b, .bl true])) : Dp K H (.ref p) (.tuple [.str a, .str b, .bool true]) := .tup (SqT.of h) (.cons (.str _) (.cons (.str _) (.cons (.bl _) .nil)))
def sp_areRefused (P0 : Addr) : Sp := fun vs H Q _ => ∃ (p c : Addr) (m : Nat), vs = [.ref p] ∧ PenAt H p c m ∧ m < 900000 ∧ Tabs [(P0, lamQ)] H ∧ ∀ H', Q (.bl true) H'

end
end Vf

set_option maxRecDepth 100000
set_option maxHeartbeats 4000000
namespace Vf
open PySem PySem.Spec PyProof.Rows L2 SX
section
variable {P : Program} {w : World} {K : PySem.W.Frag} {mg : Str → Option Value} {base : Heap}
structure Row where
  p : Pt
  q : Pt
  t : Str
  ns : List Int
def RowAt (H : Hp) (L r : Addr) (R : Row) : Prop := ∃ x y z, x ≠ L ∧ y ≠ L ∧ z ≠ L ∧ r ≠ L ∧ H r = some (.tup [.ref x, .ref y, .str R.t, .ref z]) ∧ H x = some (.tup [.str R.p.1, R.p.2]) ∧ H y = some (.tup [.str R.q.1, R.q.2]) ∧ H z = some (.lst (R.ns.map V.int))
def Sb (L : Addr) (H H' : Hp) : Prop := ∀ b o, b ≠ L → H b = some o → H' b = some o
theorem RowAt.sb {H H' : Hp} {L r : Addr} {R : Row} (h : RowAt H L r R) (s : Sb L H H') : RowAt H' L r R := let ⟨x, y, z, a, b, c, d, e, f, g, i⟩ := h; ⟨x, y, z, a, b, c, d, s _ _ d e, s _ _ a f, s _ _ b g, s _ _ c i⟩
theorem Sb.of {L : Addr} {H H' : Hp} (s : Same H H') : Sb L H H' := fun b o _ e => s b o e
theorem Sb.at {L : Addr} {H : Hp} {o : HO} : Sb L H (upd H L o) := fun b u n e => by rw [upd_ne n]; exact e
def RowsAt (H : Hp) (L : Addr) (vs : List V) (Rs : List Row) : Prop := vs.length = Rs.length ∧ ∀ (i : Nat) (v : V) (R : Row), vs[i]? = some v → Rs[i]? = some R → ∃ r, v = .ref r ∧ RowAt H L r R
theorem RowsAt.sb {H H' : Hp} {L : Addr} {vs : List V} {Rs : List Row} (h : RowsAt H L vs Rs) (s : Sb L H H') : RowsAt H' L vs Rs := ⟨h.1, fun i v R a b => let ⟨r, e, k⟩ := h.2 i v R a b; ⟨r, e, k.sb s⟩⟩
theorem RowsAt.snoc {H : Hp} {L : Addr} {vs : List V} {Rs : List Row} {r : Addr} {R : Row} (h : RowsAt H L vs Rs) (k : RowAt H L r R) : RowsAt H L (vs ++ [.ref r]) (Rs ++ [R]) := by
  refine ⟨by rw [List.length_append, List.length_append, h.1]; rfl, fun i v R' a b => ?_⟩
  by_cases hi : i < vs.length
  · rw [List.getElem?_append_left hi] at a
    rw [List.getElem?_append_left (by rw [← h.1]; exact hi)] at b
    exact h.2 i v R' a b
  · have hl : i = vs.length := by
      have := (List.getElem?_eq_some_iff.mp a).1
      rw [List.length_append] at this
      have : i < vs.length + 1 := this
      omega
    subst hl
    rw [List.getElem?_append_right (Nat.le_refl _), Nat.sub_self] at a
    rw [h.1, List.getElem?_append_right (Nat.le_refl _), Nat.sub_self] at b
    cases a
    cases b
    exact ⟨r, rfl, k⟩
def RowN (H0 H : Hp) (r : Addr) (R : Row) : Prop := ∃ x y z, (∀ L o, H0 L = some o → x ≠ L ∧ y ≠ L ∧ z ≠ L ∧ r ≠ L) ∧ H r = some (.tup [.ref x, .ref y, .str R.t, .ref z]) ∧ H x = some (.tup [.str R.p.1, R.p.2]) ∧ H y = some (.tup [.str R.q.1, R.q.2]) ∧ H z = some (.lst (R.ns.map V.int))
theorem RowN.at {H0 H : Hp} {r L : Addr} {R : Row} {o : HO} (h : RowN H0 H r R) (hL : H0 L = some o) : RowAt H L r R := let ⟨x, y, z, a, e, f, g, i⟩ := h; let ⟨a1, a2, a3, a4⟩ := a _ _ hL; ⟨x, y, z, a1, a2, a3, a4, e, f, g, i⟩
theorem RowN.fresh {H0 H H' : Hp} {r L : Addr} {R : Row} (h : RowN H0 H r R) (s : Same H H') (hL : H' L = none) (o : HO) : RowAt (upd H' L o) L r R := let ⟨x, y, z, _, e, f, g, i⟩ := h
  ⟨x, y, z, ne_of_none (s _ _ f) hL, ne_of_none (s _ _ g) hL, ne_of_none (s _ _ i) hL, ne_of_none (s _ _ e) hL, same_new s hL o _ _ e, same_new s hL o _ _ f, same_new s hL o _ _ g, same_new s hL o _ _ i⟩
theorem row_new {H : Hp} {x y z r : Addr} (R : Row) {k1 k2 : Str} {v1 v2 : V} {t : Str} {ns : List V} (e : R = ⟨(k1, v1), (k2, v2), t, R.ns⟩) (en : ns = R.ns.map V.int) (hx : H x = none) (hy : upd H x (.tup [.str k1, v1]) y = none) (hz : upd (upd H x (.tup [.str k1, v1])) y (.tup [.str k2, v2]) z = none)
    (hr : upd (upd (upd H x (.tup [.str k1, v1])) y (.tup [.str k2, v2])) z (.lst ns) r = none) :
    RowN H (upd (upd (upd (upd H x (.tup [.str k1, v1])) y (.tup [.str k2, v2])) z (.lst ns)) r (.tup [.ref x, .ref y, .str t, .ref z])) r R ∧ Same H (upd (upd (upd (upd H x (.tup [.str k1, v1])) y (.tup [.str k2, v2])) z (.lst ns)) r (.tup [.ref x, .ref y, .str t, .ref z])) := by
  rw [e]
  subst en
  have s1 := same_new (fun _ _ z => z) hx (.tup [.str k1, v1])
  have s2 := same_new s1 hy (.tup [.str k2, v2])
  have s3 := same_new s2 hz (.lst (R.ns.map V.int))
  have s4 := same_new s3 hr (.tup [.ref x, .ref y, .str t, .ref z])
  have y1 := ne_of_none (upd_same : upd H x (.tup [.str k1, v1]) x = _) hy
  have z1 := ne_of_none (upd_same : upd (upd H x (.tup [.str k1, v1])) y (.tup [.str k2, v2]) y = _) hz
  have x2 : upd (upd H x (.tup [.str k1, v1])) y (.tup [.str k2, v2]) x = some (.tup [.str k1, v1]) := by rw [upd_ne y1]; exact upd_same
  have z2 := ne_of_none x2 hz
  have x3 : upd (upd (upd H x (.tup [.str k1, v1])) y (.tup [.str k2, v2])) z (.lst (R.ns.map V.int)) x = some (.tup [.str k1, v1]) := by rw [upd_ne z2]; exact x2
  have y3 : upd (upd (upd H x (.tup [.str k1, v1])) y (.tup [.str k2, v2])) z (.lst (R.ns.map V.int)) y = some (.tup [.str k2, v2]) := by rw [upd_ne z1]; exact upd_same
  refine ⟨⟨x, y, z, fun L o hL => ⟨(ne_of_none hL hx).symm, (ne_of_none (s1 _ _ hL) hy).symm, (ne_of_none (s2 _ _ hL) hz).symm, (ne_of_none (s3 _ _ hL) hr).symm⟩, upd_same, ?_, ?_, ?_⟩, s4⟩
  · rw [upd_ne (ne_of_none x3 hr)]; exact x3
  · rw [upd_ne (ne_of_none y3 hr)]; exact y3
  · rw [upd_ne (ne_of_none upd_same hr)]; exact upd_same
def RowOk (R : Row) : Prop := ∃ ls : List Str, Txt.split R.t (" " : Str) = ls ∧ OkP R.p ∧ OkP R.q ∧ ls.length ≤ 1000 ∧ (∀ l ∈ ls, l.length ≤ 1000) ∧ R.t.length ≤ 1000 ∧ ((List.range (tT ls (.rg R.p R.q false)).length).filter fun k => (tT ls (.rg R.p R.q false)).getD k false).map (fun k : Nat => (k : Int)) = R.ns
theorem okw {k : Str} (t : List Nat) {x : Str} (hx : x = S t) (h : isW k) (h1 : t.length ≤ 6) (h2 : ∀ c ∈ t, c ∈ signsL ∧ c ≠ 10) : OkP (k, .str x) := by subst hx; exact .wd h h1 h2
abbrev rows : List Row := [⟨("number", .int 2), ("number", .int 2), "a b c d", [1, 2, 3]⟩, ⟨("last", .non), ("number", .int 1), "a b c d", [3]⟩, ⟨("all", .non), ("all", .non), "a b c", [0, 1, 2]⟩, ⟨("has", .str "a"), ("has", .str "a"), "a a b ba c a b", [0, 1, 3, 4, 5]⟩, ⟨("begins", .str "a"), ("ends", .str "z"), "b az c z z", [1, 2, 3]⟩, ⟨("is", .str "b"), ("is", .str "c"), "a b b c c b", [1, 2, 3, 5]⟩, ⟨("number", .int 3), ("number", .int 2), "a b c d", [2, 3]⟩]
theorem n2 {n : Nat} (h1 : 1 ≤ n) (h2 : n ≤ 6) {i : Int} (e : i = (n : Int)) : OkP ("number", .int i) := e ▸ .nu h1 h2
theorem rows_ok : ∀ R ∈ rows, RowOk R := by
  intro R h
  simp only [rows, List.mem_cons, List.not_mem_nil, or_false] at h
  rcases h with rfl | rfl | rfl | rfl | rfl | rfl | rfl
  · exact ⟨["a", "b", "c", "d"], by decide +kernel, n2 (n := 2) (by decide) (by decide) rfl, n2 (n := 2) (by decide) (by decide) rfl, by decide, by decide +kernel, by decide +kernel, by decide +kernel⟩
  · exact ⟨["a", "b", "c", "d"], by decide +kernel, .ba (.inr rfl), n2 (n := 1) (by decide) (by decide) rfl, by decide, by decide +kernel, by decide +kernel, by decide +kernel⟩
  · exact ⟨["a", "b", "c"], by decide +kernel, .ba (.inl rfl), .ba (.inl rfl), by decide, by decide +kernel, by decide +kernel, by decide +kernel⟩
  · exact ⟨["a", "a", "b", "ba", "c", "a", "b"], by decide +kernel, okw [97] (by decide +kernel) (.inr (.inr (.inl rfl))) (by decide) (by decide), okw [97] (by decide +kernel) (.inr (.inr (.inl rfl))) (by decide) (by decide), by decide, by decide +kernel, by decide +kernel, by decide +kernel⟩
  · exact ⟨["b", "az", "c", "z", "z"], by decide +kernel, okw [97] (by decide +kernel) (.inl rfl) (by decide) (by decide), okw [122] (by decide +kernel) (.inr (.inl rfl)) (by decide) (by decide), by decide, by decide +kernel, by decide +kernel, by decide +kernel⟩
  · exact ⟨["a", "b", "b", "c", "c", "b"], by decide +kernel, okw [98] (by decide +kernel) (.inr (.inr (.inr rfl))) (by decide) (by decide), okw [99] (by decide +kernel) (.inr (.inr (.inr rfl))) (by decide) (by decide), by decide, by decide +kernel, by decide +kernel, by decide +kernel⟩
  · exact ⟨["a", "b", "c", "d"], by decide +kernel, n2 (n := 3) (by decide) (by decide) rfl, n2 (n := 2) (by decide) (by decide) rfl, by decide, by decide +kernel, by decide +kernel, by decide +kernel⟩
theorem rgl : ∀ (bs es : List Bool) (ins : Bool), bs.length = es.length → (rgT ins bs es).length = bs.length
  | [], [], _, _ => rfl
  | b :: bs, e :: es, ins, h => congrArg (· + 1) (rgl bs es _ (Nat.succ.inj h))
theorem tt_len {ls : List Str} {p q : Pt} {n : Bool} (h : ls.length ≤ 1000) : (tT ls (.rg p q n)).length ≤ 1000 := by
  show ((rgT false (plTs p ls) (plTs q ls)).map (· != n)).length ≤ 1000
  have hp : ∀ z : Pt, (plTs z ls).length = ls.length := fun z => by unfold plTs; rw [List.length_map, List.length_range]
  rw [List.length_map, rgl _ _ _ (by rw [hp, hp]), hp]
  exact h
theorem tt_not (ls : List Str) (p q : Pt) : tT ls (.rg p q true) = (tT ls (.rg p q false)).map (!·) := by
  show (rgT false (plTs p ls) (plTs q ls)).map (· != true) = ((rgT false (plTs p ls) (plTs q ls)).map (· != false)).map (!·)
  rw [List.map_map]
  refine List.map_congr_left fun b _ => ?_
  cases b <;> rfl
theorem eqv_ints : ∀ ns : List Int, PyData.eqvAll (ns.map PyData.int) (ns.map PyData.int) = true
  | [] => by simp [PyData.eqvAll]
  | n :: ns => by simp [PyData.eqvAll, PyData.eqv, eqv_ints ns]
theorem eqv_bls : ∀ ns : List Bool, PyData.eqvAll (ns.map PyData.bool) (ns.map PyData.bool) = true
  | [] => by simp [PyData.eqvAll]
  | n :: ns => by simp [PyData.eqvAll, PyData.eqv, eqv_bls ns]
theorem dp_ints {K : PySem.W.Frag} {H : Hp} : ∀ ns : List Int, DpAll K H (ns.map V.int) (ns.map PyData.int)
  | [] => .nil
  | n :: ns => .cons (.int n) (dp_ints ns)
theorem dp_bls {K : PySem.W.Frag} {H : Hp} : ∀ ns : List Bool, DpAll K H (ns.map V.bl) (ns.map PyData.bool)
  | [] => .nil
  | n :: ns => .cons (.bl n) (dp_bls ns)
theorem lay_ints : ∀ ns : List Int, PyData.canLayAll0 (ns.map PyData.int) = true ∧ PyData.depthAll (ns.map PyData.int) = 0
  | [] => by simp [PyData.canLayAll0, PyData.depthAll]
  | n :: ns => by
    obtain ⟨a, b⟩ := lay_ints ns
    simp [PyData.canLayAll0, PyData.depthAll, PyData.canLay0, PyData.depth, a, b]
theorem lay_bls : ∀ ns : List Bool, PyData.canLayAll0 (ns.map PyData.bool) = true ∧ PyData.depthAll (ns.map PyData.bool) = 0
  | [] => by simp [PyData.canLayAll0, PyData.depthAll]
  | n :: ns => by
    obtain ⟨a, b⟩ := lay_bls ns
    simp [PyData.canLayAll0, PyData.depthAll, PyData.canLay0, PyData.depth, a, b]
theorem sh_ints (ns : List Int) : SeqAt.shaped (.list (ns.map PyData.int)) = true := by
  simp [SeqAt.shaped, PyData.canLay0, PyData.depth, lay_ints]
theorem sh_bls (ns : List Bool) : SeqAt.shaped (.tuple (ns.map PyData.bool)) = true := by
  simp [SeqAt.shaped, PyData.canLay0, PyData.depth, lay_bls]
theorem sh_lbls (ns : List Bool) : SeqAt.shaped (.list (ns.map PyData.bool)) = true := by
  simp [SeqAt.shaped, PyData.canLay0, PyData.depth, lay_bls]
theorem szS {n : Nat} (h : n ≤ 100) : n ≤ sizeLine := szB (by omega)
theorem ok_byHand {f : Addr} {fd : FuncData} (F : C8.Def K mg "_law_by_hand" s_byHand f fd) (b : Binds K fd [] []) (T : Tx K w mg) {CBadWord CBadNumber CW : Addr} {CL : Addr} (C_LineTest_truths : C8.Met P w K mg base 3 CL "truths" (sp_LineTest_truths K CL) []) (C_rangeTest : CalX P w K mg base 3 "range_test" (sp_rangeTest K CL CBadWord CBadNumber)) (C_plainTest : CalX P w K mg base 4 "plain_test" (sp_plainTest K CL CBadWord CBadNumber)) (C_otherTest : CalX P w K mg base 3 "other_test" (sp_otherTest K CL CBadWord CBadNumber)) : C8.Cal P w K mg base 6 "_law_by_hand" sp_byHand [] := by
  refine C8.cal0 F b .nil sc_byHand (fun vs H Q E h => ?_) (fun cdv A outer s H vs Q E hr h => ?_)
  · obtain ⟨rfl, _⟩ := h; rfl
  have hu := hu_of hr
  refine ⟨_, (pss_cons (ps_set (i := 0) sc_byHand.nd rfl (Or.inl rfl) (pe_lst (pa_cons (pe_tup (pa_cons (pe_tup (pa_cons pe_str (pa_cons pe_int pa_nil))) (pa_cons (pe_tup (pa_cons pe_str (pa_cons pe_int pa_nil))) (pa_cons pe_str (pa_cons (pe_lst (pa_cons pe_int (pa_cons pe_int (pa_cons pe_int pa_nil)))) pa_nil))))) (pa_cons (pe_tup (pa_cons (pe_tup (pa_cons pe_str (pa_cons pe_non pa_nil))) (pa_cons (pe_tup (pa_cons pe_str (pa_cons pe_int pa_nil))) (pa_cons pe_str (pa_cons (pe_lst (pa_cons pe_int pa_nil)) pa_nil))))) pa_nil))))
      (pss_cons (ps_expr (pe_bm PySem.F.plainAttrs_list PySem.F.slot_list_append PySem.F.type_list_append mt_append (pv 0) (pa_cons (pe_tup (pa_cons (pe_tup (pa_cons pe_str (pa_cons pe_non pa_nil))) (pa_cons (pe_tup (pa_cons pe_str (pa_cons pe_non pa_nil))) (pa_cons pe_str (pa_cons (pe_lst (pa_cons pe_int (pa_cons pe_int (pa_cons pe_int pa_nil)))) pa_nil))))) pa_nil)))
      (pss_cons (ps_expr (pe_bm PySem.F.plainAttrs_list PySem.F.slot_list_append PySem.F.type_list_append mt_append (pv 0) (pa_cons (pe_tup (pa_cons (pe_tup (pa_cons pe_str (pa_cons pe_str pa_nil))) (pa_cons (pe_tup (pa_cons pe_str (pa_cons pe_str pa_nil))) (pa_cons pe_str (pa_cons (pe_lst (pa_cons pe_int (pa_cons pe_int (pa_cons pe_int (pa_cons pe_int (pa_cons pe_int pa_nil)))))) pa_nil))))) pa_nil)))
      (pss_cons (ps_expr (pe_bm PySem.F.plainAttrs_list PySem.F.slot_list_append PySem.F.type_list_append mt_append (pv 0) (pa_cons (pe_tup (pa_cons (pe_tup (pa_cons pe_str (pa_cons pe_str pa_nil))) (pa_cons (pe_tup (pa_cons pe_str (pa_cons pe_str pa_nil))) (pa_cons pe_str (pa_cons (pe_lst (pa_cons pe_int (pa_cons pe_int (pa_cons pe_int pa_nil)))) pa_nil))))) pa_nil)))
      (pss_cons (ps_expr (pe_bm PySem.F.plainAttrs_list PySem.F.slot_list_append PySem.F.type_list_append mt_append (pv 0) (pa_cons (pe_tup (pa_cons (pe_tup (pa_cons pe_str (pa_cons pe_str pa_nil))) (pa_cons (pe_tup (pa_cons pe_str (pa_cons pe_str pa_nil))) (pa_cons pe_str (pa_cons (pe_lst (pa_cons pe_int (pa_cons pe_int (pa_cons pe_int (pa_cons pe_int pa_nil))))) pa_nil))))) pa_nil)))
      (pss_cons (ps_expr (pe_bm PySem.F.plainAttrs_list PySem.F.slot_list_append PySem.F.type_list_append mt_append (pv 0) (pa_cons (pe_tup (pa_cons (pe_tup (pa_cons pe_str (pa_cons pe_int pa_nil))) (pa_cons (pe_tup (pa_cons pe_str (pa_cons pe_int pa_nil))) (pa_cons pe_str (pa_cons (pe_lst (pa_cons pe_int (pa_cons pe_int pa_nil))) pa_nil))))) pa_nil)))
      (pss_cons (ps_for PassesOwn.never rfl (pi_list (pv 0)) (pg_tup rfl (pgs_cons (pg_name (i := 1) sc_byHand.nd rfl (Or.inl rfl)) (pgs_cons (pg_name (i := 2) sc_byHand.nd rfl (Or.inl rfl)) (pgs_cons (pg_name (i := 3) sc_byHand.nd rfl (Or.inl rfl)) (pgs_cons (pg_name (i := 4) sc_byHand.nd rfl (Or.inl rfl)) pgs_nil)))))
      (pss_cons (ps_set (i := 5) sc_byHand.nd rfl (Or.inl rfl) (pe_cx0 C_rangeTest hr (by decide) rfl (pa_cons (pe_cx0 C_plainTest hr (by decide) rfl (pa_cons (pe_ix ix_tup (pv 1) pe_int (fun _ _ => rfl)) (pa_cons (pe_ix ix_tup (pv 1) pe_int (fun _ _ => rfl)) pa_nil))) (pa_cons (pe_cx0 C_plainTest hr (by decide) rfl (pa_cons (pe_ix ix_tup (pv 2) pe_int (fun _ _ => rfl)) (pa_cons (pe_ix ix_tup (pv 2) pe_int (fun _ _ => rfl)) pa_nil))) pa_nil))))
      (pss_cons (ps_set (i := 6) sc_byHand.nd rfl (Or.inr rfl) (C8.pe_mt C_LineTest_truths hr (by decide) (pv 5) (pa_cons (pe_split (pv 3) pe_str) pa_nil)))
      (pss_cons (ps_if (pt_cmpR (op_neD hr.units) (pe_lc (own := [("_law_k", 7)]) (g := (gName 7)) (tt := _) rfl sc_byHand.nd (pi_range1 (by rfl) T.z_range (pa_cons (pe_callB call_len (by rfl) T.z_len PySem.boot_len (pa_cons (pv 6) pa_nil)) pa_nil)) (blkOk_by (N := N_byHand) (sc := C8.fnScope s_byHand) (by decide +kernel)) (fun _ _ _ _ _ => pg_name (i := 7) sc_byHand.nd rfl (Or.inl rfl)) (fun _ _ _ _ _ => pts_one (pt_val (pe_ix (ix_tupK (K := K) rfl) (pv 6) (pv 7) (fun _ _ => rfl)))) (fun _ _ _ _ _ => (pv 7))) (pv 4) (nomark _))
      (pss_one (ps_ret pe_bl))
      pss_nil)
      (pss_one (ps_if (pt_cmpR (op_neD hr.units) (C8.pe_mt C_LineTest_truths hr (by decide) (pe_cx0 C_otherTest hr (by decide) rfl (pa_cons (pv 5) pa_nil)) (pa_cons (pe_split (pv 3) pe_str) pa_nil)) (pe_callTy call_tuple_of (by rfl) T.z_tuple (by decide +kernel) (pa_cons (pe_lc (own := [("_law_truth", 8)]) (g := (gName 8)) (tt := tYes) rfl sc_byHand.nd (pi_tup (pv 6)) (blkOk_by (N := N_byHand) (sc := C8.fnScope s_byHand) (by decide +kernel)) (fun _ _ _ _ _ => pg_name (i := 8) sc_byHand.nd rfl (Or.inl rfl)) (fun _ _ _ _ _ => pts_nil) (fun _ _ _ _ _ => (pe_not (pv 8)))) pa_nil)) (nomark _))
      (pss_one (ps_ret pe_bl))
      pss_nil))))))
      (pss_one (ps_ret pe_bl))))))))), ?_⟩

  obtain ⟨rfl, q⟩ := h
  refine ⟨szS (by show 2 ≤ 100; decide), fun x1 hx1 => ⟨szS (by show 2 ≤ 100; decide), fun y1 hy1 => ⟨szS (by decide), fun z1 hz1 => ⟨szS (by show 4 ≤ 100; decide), fun r1 hr1 => ?_⟩⟩⟩⟩
  obtain ⟨R1, s1⟩ : RowN H (upd (upd (upd (upd H x1 (.tup [.str "number", .int 2])) y1 (.tup [.str "number", .int 2])) z1 (.lst [.int 1, .int 2, .int 3])) r1 (.tup [.ref x1, .ref y1, .str "a b c d", .ref z1])) r1 ⟨("number", .int 2), ("number", .int 2), "a b c d", [1, 2, 3]⟩ ∧ Same H (upd (upd (upd (upd H x1 (.tup [.str "number", .int 2])) y1 (.tup [.str "number", .int 2])) z1 (.lst [.int 1, .int 2, .int 3])) r1 (.tup [.ref x1, .ref y1, .str "a b c d", .ref z1])) := row_new _ rfl rfl hx1 hy1 hz1 hr1
  generalize upd (upd (upd (upd H x1 (.tup [.str "number", .int 2])) y1 (.tup [.str "number", .int 2])) z1 (.lst [.int 1, .int 2, .int 3])) r1 (.tup [.ref x1, .ref y1, .str "a b c d", .ref z1]) = G1 at R1 s1 ⊢
  refine ⟨szS (by show 2 ≤ 100; decide), fun x2 hx2 => ⟨szS (by show 2 ≤ 100; decide), fun y2 hy2 => ⟨szS (by decide), fun z2 hz2 => ⟨szS (by show 4 ≤ 100; decide), fun r2 hr2 => ?_⟩⟩⟩⟩
  obtain ⟨R2, s2⟩ : RowN G1 (upd (upd (upd (upd G1 x2 (.tup [.str "last", .non])) y2 (.tup [.str "number", .int 1])) z2 (.lst [.int 3])) r2 (.tup [.ref x2, .ref y2, .str "a b c d", .ref z2])) r2 ⟨("last", .non), ("number", .int 1), "a b c d", [3]⟩ ∧ Same G1 (upd (upd (upd (upd G1 x2 (.tup [.str "last", .non])) y2 (.tup [.str "number", .int 1])) z2 (.lst [.int 3])) r2 (.tup [.ref x2, .ref y2, .str "a b c d", .ref z2])) := row_new _ rfl rfl hx2 hy2 hz2 hr2
  generalize upd (upd (upd (upd G1 x2 (.tup [.str "last", .non])) y2 (.tup [.str "number", .int 1])) z2 (.lst [.int 3])) r2 (.tup [.ref x2, .ref y2, .str "a b c d", .ref z2]) = G2 at R2 s2 ⊢
  refine ⟨szS (by show 2 ≤ 100; decide), fun L hL => ?_⟩
  have A1 := R1.fresh s2 hL (.lst [.ref r1, .ref r2])
  have A2 := R2.fresh (fun _ _ z => z) hL (.lst [.ref r1, .ref r2])
  have B : RowsAt (upd G2 L (.lst [.ref r1, .ref r2])) L [.ref r1, .ref r2] [⟨("number", .int 2), ("number", .int 2), "a b c d", [1, 2, 3]⟩, ⟨("last", .non), ("number", .int 1), "a b c d", [3]⟩] := RowsAt.snoc (RowsAt.snoc (vs := []) (Rs := []) ⟨rfl, fun _ _ _ z => nomatch z⟩ A1) A2
  have nL : H L = none := by
    cases h : H L with
    | none => rfl
    | some o => have := s2 _ _ (s1 _ _ h); rw [hL] at this; cases this
  have e2 : (upd G2 L (.lst [.ref r1, .ref r2])) L = some (.lst [.ref r1, .ref r2]) := upd_same
  have sm2 : Same H (upd G2 L (.lst [.ref r1, .ref r2])) := same_new (Same.trans s1 s2) hL _
  generalize upd G2 L (.lst [.ref r1, .ref r2]) = H2 at B e2 sm2 ⊢
  refine ⟨_, rfl, .inl ⟨rfl, _, SqL.of e2⟩, ?_⟩
  refine ⟨szS (by show 2 ≤ 100; decide), fun x3 hx3 => ⟨szS (by show 2 ≤ 100; decide), fun y3 hy3 => ⟨szS (by decide), fun z3 hz3 => ⟨szS (by show 4 ≤ 100; decide), fun r3 hr3 => ?_⟩⟩⟩⟩
  obtain ⟨R3, s3⟩ : RowN H2 (upd (upd (upd (upd H2 x3 (.tup [.str "all", .non])) y3 (.tup [.str "all", .non])) z3 (.lst [.int 0, .int 1, .int 2])) r3 (.tup [.ref x3, .ref y3, .str "a b c", .ref z3])) r3 ⟨("all", .non), ("all", .non), "a b c", [0, 1, 2]⟩ ∧ Same H2 (upd (upd (upd (upd H2 x3 (.tup [.str "all", .non])) y3 (.tup [.str "all", .non])) z3 (.lst [.int 0, .int 1, .int 2])) r3 (.tup [.ref x3, .ref y3, .str "a b c", .ref z3])) := row_new _ rfl rfl hx3 hy3 hz3 hr3
  generalize upd (upd (upd (upd H2 x3 (.tup [.str "all", .non])) y3 (.tup [.str "all", .non])) z3 (.lst [.int 0, .int 1, .int 2])) r3 (.tup [.ref x3, .ref y3, .str "a b c", .ref z3]) = G3 at R3 s3 ⊢
  refine ⟨L, _, _, rfl, rfl, s3 _ _ e2, szL (by show 2 ≤ 1000000; decide), ?_⟩
  have B := ((B.sb (Sb.of s3)).snoc (R3.at e2)).sb (Sb.at (o := .lst ([.ref r1, .ref r2] ++ [.ref r3])))
  have e3 : (upd G3 L (.lst ([.ref r1, .ref r2] ++ [.ref r3]))) L = some (.lst ([.ref r1, .ref r2, .ref r3])) := upd_same
  have sm3 : Same H (upd G3 L (.lst ([.ref r1, .ref r2] ++ [.ref r3]))) := same_upd (Same.trans sm2 s3) nL _
  generalize upd G3 L (.lst ([.ref r1, .ref r2] ++ [.ref r3])) = H3 at B e3 sm3 ⊢
  refine ⟨_, rfl, .inl ⟨rfl, _, SqL.of e3⟩, ?_⟩
  refine ⟨szS (by show 2 ≤ 100; decide), fun x4 hx4 => ⟨szS (by show 2 ≤ 100; decide), fun y4 hy4 => ⟨szS (by decide), fun z4 hz4 => ⟨szS (by show 4 ≤ 100; decide), fun r4 hr4 => ?_⟩⟩⟩⟩
  obtain ⟨R4, s4⟩ : RowN H3 (upd (upd (upd (upd H3 x4 (.tup [.str "has", .str "a"])) y4 (.tup [.str "has", .str "a"])) z4 (.lst [.int 0, .int 1, .int 3, .int 4, .int 5])) r4 (.tup [.ref x4, .ref y4, .str "a a b ba c a b", .ref z4])) r4 ⟨("has", .str "a"), ("has", .str "a"), "a a b ba c a b", [0, 1, 3, 4, 5]⟩ ∧ Same H3 (upd (upd (upd (upd H3 x4 (.tup [.str "has", .str "a"])) y4 (.tup [.str "has", .str "a"])) z4 (.lst [.int 0, .int 1, .int 3, .int 4, .int 5])) r4 (.tup [.ref x4, .ref y4, .str "a a b ba c a b", .ref z4])) := row_new _ rfl rfl hx4 hy4 hz4 hr4
  generalize upd (upd (upd (upd H3 x4 (.tup [.str "has", .str "a"])) y4 (.tup [.str "has", .str "a"])) z4 (.lst [.int 0, .int 1, .int 3, .int 4, .int 5])) r4 (.tup [.ref x4, .ref y4, .str "a a b ba c a b", .ref z4]) = G4 at R4 s4 ⊢
  refine ⟨L, _, _, rfl, rfl, s4 _ _ e3, szL (by show 3 ≤ 1000000; decide), ?_⟩
  have B := ((B.sb (Sb.of s4)).snoc (R4.at e3)).sb (Sb.at (o := .lst ([.ref r1, .ref r2, .ref r3] ++ [.ref r4])))
  have e4 : (upd G4 L (.lst ([.ref r1, .ref r2, .ref r3] ++ [.ref r4]))) L = some (.lst ([.ref r1, .ref r2, .ref r3, .ref r4])) := upd_same
  have sm4 : Same H (upd G4 L (.lst ([.ref r1, .ref r2, .ref r3] ++ [.ref r4]))) := same_upd (Same.trans sm3 s4) nL _
  generalize upd G4 L (.lst ([.ref r1, .ref r2, .ref r3] ++ [.ref r4])) = H4 at B e4 sm4 ⊢
  refine ⟨_, rfl, .inl ⟨rfl, _, SqL.of e4⟩, ?_⟩
  refine ⟨szS (by show 2 ≤ 100; decide), fun x5 hx5 => ⟨szS (by show 2 ≤ 100; decide), fun y5 hy5 => ⟨szS (by decide), fun z5 hz5 => ⟨szS (by show 4 ≤ 100; decide), fun r5 hr5 => ?_⟩⟩⟩⟩
  obtain ⟨R5, s5⟩ : RowN H4 (upd (upd (upd (upd H4 x5 (.tup [.str "begins", .str "a"])) y5 (.tup [.str "ends", .str "z"])) z5 (.lst [.int 1, .int 2, .int 3])) r5 (.tup [.ref x5, .ref y5, .str "b az c z z", .ref z5])) r5 ⟨("begins", .str "a"), ("ends", .str "z"), "b az c z z", [1, 2, 3]⟩ ∧ Same H4 (upd (upd (upd (upd H4 x5 (.tup [.str "begins", .str "a"])) y5 (.tup [.str "ends", .str "z"])) z5 (.lst [.int 1, .int 2, .int 3])) r5 (.tup [.ref x5, .ref y5, .str "b az c z z", .ref z5])) := row_new _ rfl rfl hx5 hy5 hz5 hr5
  generalize upd (upd (upd (upd H4 x5 (.tup [.str "begins", .str "a"])) y5 (.tup [.str "ends", .str "z"])) z5 (.lst [.int 1, .int 2, .int 3])) r5 (.tup [.ref x5, .ref y5, .str "b az c z z", .ref z5]) = G5 at R5 s5 ⊢
  refine ⟨L, _, _, rfl, rfl, s5 _ _ e4, szL (by show 4 ≤ 1000000; decide), ?_⟩
  have B := ((B.sb (Sb.of s5)).snoc (R5.at e4)).sb (Sb.at (o := .lst ([.ref r1, .ref r2, .ref r3, .ref r4] ++ [.ref r5])))
  have e5 : (upd G5 L (.lst ([.ref r1, .ref r2, .ref r3, .ref r4] ++ [.ref r5]))) L = some (.lst ([.ref r1, .ref r2, .ref r3, .ref r4, .ref r5])) := upd_same
  have sm5 : Same H (upd G5 L (.lst ([.ref r1, .ref r2, .ref r3, .ref r4] ++ [.ref r5]))) := same_upd (Same.trans sm4 s5) nL _
  generalize upd G5 L (.lst ([.ref r1, .ref r2, .ref r3, .ref r4] ++ [.ref r5])) = H5 at B e5 sm5 ⊢
  refine ⟨_, rfl, .inl ⟨rfl, _, SqL.of e5⟩, ?_⟩
  refine ⟨szS (by show 2 ≤ 100; decide), fun x6 hx6 => ⟨szS (by show 2 ≤ 100; decide), fun y6 hy6 => ⟨szS (by decide), fun z6 hz6 => ⟨szS (by show 4 ≤ 100; decide), fun r6 hr6 => ?_⟩⟩⟩⟩
  obtain ⟨R6, s6⟩ : RowN H5 (upd (upd (upd (upd H5 x6 (.tup [.str "is", .str "b"])) y6 (.tup [.str "is", .str "c"])) z6 (.lst [.int 1, .int 2, .int 3, .int 5])) r6 (.tup [.ref x6, .ref y6, .str "a b b c c b", .ref z6])) r6 ⟨("is", .str "b"), ("is", .str "c"), "a b b c c b", [1, 2, 3, 5]⟩ ∧ Same H5 (upd (upd (upd (upd H5 x6 (.tup [.str "is", .str "b"])) y6 (.tup [.str "is", .str "c"])) z6 (.lst [.int 1, .int 2, .int 3, .int 5])) r6 (.tup [.ref x6, .ref y6, .str "a b b c c b", .ref z6])) := row_new _ rfl rfl hx6 hy6 hz6 hr6
  generalize upd (upd (upd (upd H5 x6 (.tup [.str "is", .str "b"])) y6 (.tup [.str "is", .str "c"])) z6 (.lst [.int 1, .int 2, .int 3, .int 5])) r6 (.tup [.ref x6, .ref y6, .str "a b b c c b", .ref z6]) = G6 at R6 s6 ⊢
  refine ⟨L, _, _, rfl, rfl, s6 _ _ e5, szL (by show 5 ≤ 1000000; decide), ?_⟩
  have B := ((B.sb (Sb.of s6)).snoc (R6.at e5)).sb (Sb.at (o := .lst ([.ref r1, .ref r2, .ref r3, .ref r4, .ref r5] ++ [.ref r6])))
  have e6 : (upd G6 L (.lst ([.ref r1, .ref r2, .ref r3, .ref r4, .ref r5] ++ [.ref r6]))) L = some (.lst ([.ref r1, .ref r2, .ref r3, .ref r4, .ref r5, .ref r6])) := upd_same
  have sm6 : Same H (upd G6 L (.lst ([.ref r1, .ref r2, .ref r3, .ref r4, .ref r5] ++ [.ref r6]))) := same_upd (Same.trans sm5 s6) nL _
  generalize upd G6 L (.lst ([.ref r1, .ref r2, .ref r3, .ref r4, .ref r5] ++ [.ref r6])) = H6 at B e6 sm6 ⊢
  refine ⟨_, rfl, .inl ⟨rfl, _, SqL.of e6⟩, ?_⟩
  refine ⟨szS (by show 2 ≤ 100; decide), fun x7 hx7 => ⟨szS (by show 2 ≤ 100; decide), fun y7 hy7 => ⟨szS (by decide), fun z7 hz7 => ⟨szS (by show 4 ≤ 100; decide), fun r7 hr7 => ?_⟩⟩⟩⟩
  obtain ⟨R7, s7⟩ : RowN H6 (upd (upd (upd (upd H6 x7 (.tup [.str "number", .int 3])) y7 (.tup [.str "number", .int 2])) z7 (.lst [.int 2, .int 3])) r7 (.tup [.ref x7, .ref y7, .str "a b c d", .ref z7])) r7 ⟨("number", .int 3), ("number", .int 2), "a b c d", [2, 3]⟩ ∧ Same H6 (upd (upd (upd (upd H6 x7 (.tup [.str "number", .int 3])) y7 (.tup [.str "number", .int 2])) z7 (.lst [.int 2, .int 3])) r7 (.tup [.ref x7, .ref y7, .str "a b c d", .ref z7])) := row_new _ rfl rfl hx7 hy7 hz7 hr7
  generalize upd (upd (upd (upd H6 x7 (.tup [.str "number", .int 3])) y7 (.tup [.str "number", .int 2])) z7 (.lst [.int 2, .int 3])) r7 (.tup [.ref x7, .ref y7, .str "a b c d", .ref z7]) = G7 at R7 s7 ⊢
  refine ⟨L, _, _, rfl, rfl, s7 _ _ e6, szL (by show 6 ≤ 1000000; decide), ?_⟩
  have B := ((B.sb (Sb.of s7)).snoc (R7.at e6)).sb (Sb.at (o := .lst ([.ref r1, .ref r2, .ref r3, .ref r4, .ref r5, .ref r6] ++ [.ref r7])))
  have e7 : (upd G7 L (.lst ([.ref r1, .ref r2, .ref r3, .ref r4, .ref r5, .ref r6] ++ [.ref r7]))) L = some (.lst ([.ref r1, .ref r2, .ref r3, .ref r4, .ref r5, .ref r6, .ref r7])) := upd_same
  have sm7 : Same H (upd G7 L (.lst ([.ref r1, .ref r2, .ref r3, .ref r4, .ref r5, .ref r6] ++ [.ref r7]))) := same_upd (Same.trans sm6 s7) nL _
  generalize upd G7 L (.lst ([.ref r1, .ref r2, .ref r3, .ref r4, .ref r5, .ref r6] ++ [.ref r7])) = H7 at B e7 sm7 ⊢
  have BB : RowsAt H7 L [.ref r1, .ref r2, .ref r3, .ref r4, .ref r5, .ref r6, .ref r7] rows := B
  have e7' : H7 L = some (.lst [.ref r1, .ref r2, .ref r3, .ref r4, .ref r5, .ref r6, .ref r7]) := e7
  clear B e7
  generalize ([.ref r1, .ref r2, .ref r3, .ref r4, .ref r5, .ref r6, .ref r7] : List V) = vs at BB e7'
  refine ⟨_, rfl, L, rfl, ⟨_, SqL.of e7'⟩, ?_⟩
  refine for_list (K := K) (a := L) (xs := vs) (fun i σ H' => ∃ v1 v2 v3 v4 v5 v6 v7 v8 : Option V, σ = [some (.ref L), v1, v2, v3, v4, v5, v6, v7, v8] ∧ Same H7 H') ⟨_, _, _, _, _, _, _, _, rfl, fun _ _ z => z⟩ ?_ ?_ ?_
  · rintro i σ H' hi ⟨v1, v2, v3, v4, v5, v6, v7, v8, rfl, sm⟩
    exact SqL.of (sm _ _ e7')
  · rintro i v σ H' hv ⟨v1, v2, v3, v4, v5, v6, v7, v8, rfl, sm⟩
    obtain ⟨R, hR⟩ : ∃ R, rows[i]? = some R := ⟨_, List.getElem?_eq_getElem (by rw [← BB.1]; exact (List.getElem?_eq_some_iff.mp hv).1)⟩
    obtain ⟨r, rfl, x, y, z, _, _, _, _, er, ex, ey, ez⟩ := BB.2 i v R hv hR
    obtain ⟨ls, hs, op, oq, l1, l2, l3, hn⟩ := rows_ok R (List.mem_of_getElem? hR)
    generalize rows = rows0 at *
    obtain ⟨p, q', t, ns⟩ := R
    dsimp only at er ex ey ez hs op oq l3 hn
    have er' := sm _ _ er
    have ex' := sm _ _ ex
    have ey' := sm _ _ ey
    refine ⟨r, _, rfl, SqT.of er', rfl, ?_⟩
    refine ⟨_, _, rfl, _, _, rfl, _, _, rfl, _, _, rfl, rfl, ?_⟩
    refine ⟨_, rfl, x, _, 0, _, rfl, rfl, SqT.of ex', rfl, _, rfl, x, _, 1, _, rfl, rfl, SqT.of ex', rfl, ?_⟩
    refine ⟨.str p.1, p.2, none, rfl, .ok op, fun _ H1 o1 k1 hk1 s1 hp1 => ?_, fun e h => nomatch h⟩
    cases hk1
    have ey1 := s1 _ _ ey'
    refine ⟨_, rfl, y, _, 0, _, rfl, rfl, SqT.of ey1, rfl, _, rfl, y, _, 1, _, rfl, rfl, SqT.of ey1, rfl, ?_⟩
    refine ⟨.str q'.1, q'.2, none, rfl, .ok oq, fun _ H2 o2 k2 hk2 s2 hp2 => ?_, fun e h => nomatch h⟩
    cases hk2
    have hp1' := PlAt.sm hp1 s2
    obtain ⟨d1, g1⟩ := id hp1'
    obtain ⟨d2, g2⟩ := id hp2
    refine ⟨.ref o1, .ref o2, rfl, .inr ⟨o1, d1, p, _, _, rfl, g1, op.nf, .inr ⟨o2, d2, q', _, _, rfl, g2, oq.nf, fun H3 o dz s3 ho => ?_⟩⟩⟩
    have hq1 := PlAt.sm hp1' s3
    have hq2 := PlAt.sm hp2 s3
    have t3 : Same H' H3 := Same.trans s1 (Same.trans s2 s3)
    refine ⟨_, rfl, o, dz, _, rfl, ho, rfl, _, rfl, ⟨_, rfl⟩, _, _, rfl, rfl, rfl, szB (by omega), fun pl npl => ?_⟩
    rw [hs]
    have hpl : SqL K (upd H3 pl (.lst (ls.map V.str))) pl (ls.map V.str) := SqL.of upd_same
    have s4 : Same H3 (upd H3 pl (.lst (ls.map V.str))) := same_new (fun _ _ z => z) npl _
    generalize upd H3 pl (.lst (ls.map V.str)) = H4 at hpl s4 ⊢
    refine ⟨o, pl, .rg p q' false, ls, rfl, ⟨dz, o1, o2, s4 _ _ ho, PlAt.sm hq1 s4, PlAt.sm hq2 s4⟩, ⟨op, oq⟩, ⟨.inl hpl, l1, l2⟩, fun H5 tp s5 htp => ?_⟩
    have t5 : Same H' H5 := Same.trans t3 (Same.trans s4 s5)
    have hlen : (tT ls (.rg p q' false)).length ≤ 1000 := tt_len l1
    have eb := tt_not ls p q'
    generalize tT ls (.rg p q' false) = bs at hn htp hlen eb
    refine ⟨_, rfl, _, bs.length, rfl, .inr ⟨_, SqT.of htp, by rw [List.length_map]⟩, _, rfl, by omega, by omega, fun D hD => ?_⟩
    rw [show ((bs.length : Int)).toNat = bs.length from Int.toNat_natCast _]
    have nD := ne_of_none htp hD
    refine lc_range (lo := 0) (n := bs.length) (fun i H' => H' = upd H5 D (.lst ((((List.range i).filter fun k => bs.getD k false).map fun k : Nat => (k : Int)).map V.int))) rfl ?_ ?_
    · rintro i H6 hi rfl
      rw [Int.zero_add]
      have htp' : (upd H5 D (.lst ((((List.range i).filter fun k => bs.getD k false).map fun k : Nat => (k : Int)).map V.int))) tp = some (.tup (bs.map V.bl)) := by rw [upd_ne nD]; exact htp
      have hat : atI (bs.map V.bl) (i : Int) = some (.bl (bs.getD i false)) := atI_nat (by rw [List.getElem?_map, List.getElem?_eq_getElem hi, List.getD_eq_getElem?_getD, List.getElem?_eq_getElem hi]; rfl)
      refine ⟨rfl, ?_⟩
      refine ⟨_, rfl, _, rfl, tp, _, _, _, rfl, rfl, SqT.of htp', hat, _, rfl, ?_⟩
      have hfl : ((List.range i).filter fun k => bs.getD k false).length ≤ i := Nat.le_trans (List.length_filter_le _ _) (by rw [List.length_range]; exact Nat.le_refl _)
      cases hb : bs.getD i false with
      | true =>
        refine ifT ⟨_, rfl, _, upd_same, szL (by rw [List.length_map, List.length_map]; omega), ?_⟩
        rw [upd_upd, List.range_succ, List.filter_append, List.map_append, List.map_append]
        show _ = upd H5 D (.lst (_ ++ ((([i] : List Nat).filter fun k => bs.getD k false).map fun k : Nat => (k : Int)).map V.int))
        rw [List.filter_cons_of_pos (by exact hb)]
        rfl
      | false =>
        refine ifF ?_
        show _ = upd H5 D _
        rw [List.range_succ, List.filter_append, List.filter_cons_of_neg (by rw [hb]; exact Bool.false_ne_true)]
        simp
    · rintro H6 rfl
      rw [hn]
      have ez' : (upd H5 D (.lst (ns.map V.int))) z = some (.lst (ns.map V.int)) := (same_new t5 hD _) _ _ (sm _ _ ez)
      have eD : (upd H5 D (.lst (ns.map V.int))) D = some (.lst (ns.map V.int)) := upd_same
      refine ⟨_, rfl, .list (ns.map PyData.int), .list (ns.map PyData.int), .lst (SqL.of eD) (dp_ints ns), .lst (SqL.of ez') (dp_ints ns), sh_ints ns, sh_ints ns, _, rfl, ifn (by rw [PyData.eqv, eqv_ints]; rfl) ?_⟩
      have t6 : Same H' (upd H5 D (.lst (ns.map V.int))) := same_new t5 hD _
      have u6 : Same H5 (upd H5 D (.lst (ns.map V.int))) := same_new (fun _ _ z => z) hD _
      generalize upd H5 D (.lst (ns.map V.int)) = H6 at t6 u6 ⊢
      have htp6 := u6 _ _ htp
      have u36 : Same H3 H6 := Same.trans s4 (Same.trans s5 u6)
      refine ⟨_, rfl, .ref o, rfl, .inr ⟨o, dz, _, _, _, rfl, u36 _ _ ho, fun H8 c dzc s8 hc => ?_⟩⟩
      have u38 := Same.trans u36 s8
      refine ⟨c, dzc, _, rfl, hc, rfl, _, rfl, ⟨_, rfl⟩, _, _, rfl, rfl, rfl, szB (by omega), fun pl2 npl2 => ?_⟩
      rw [hs]
      have hpl2 : SqL K (upd H8 pl2 (.lst (ls.map V.str))) pl2 (ls.map V.str) := SqL.of upd_same
      have s9 : Same H8 (upd H8 pl2 (.lst (ls.map V.str))) := same_new (fun _ _ z => z) npl2 _
      generalize upd H8 pl2 (.lst (ls.map V.str)) = H9 at hpl2 s9 ⊢
      have u39 := Same.trans u38 s9
      refine ⟨c, pl2, .rg p q' true, ls, rfl, ⟨dzc, o1, o2, s9 _ _ hc, PlAt.sm hq1 u39, PlAt.sm hq2 u39⟩, ⟨op, oq⟩, ⟨.inl hpl2, l1, l2⟩, fun H10 t2 s10 ht2 => ?_⟩
      rw [eb] at ht2
      have u610 : Same H6 H10 := Same.trans s8 (Same.trans s9 s10)
      have htp10 := u610 _ _ htp6
      refine ⟨_, rfl, tp, rfl, ⟨_, SqT.of htp10⟩, fun D2 hD2 => ?_⟩
      have nD2 := ne_of_none htp10 hD2
      have n2D2 := ne_of_none ht2 hD2
      refine lc_tup (K := K) (a := tp) (xs := bs.map V.bl) (fun i H' => H' = upd H10 D2 (.lst (((bs.take i).map (!·)).map V.bl))) rfl (fun i H' _ e => by rw [e]; exact SqT.of (by rw [upd_ne nD2]; exact htp10)) ?_ ?_
      · rintro i v H' hx rfl
        rw [List.getElem?_map] at hx
        cases hy : bs[i]? with
        | none => rw [hy] at hx; cases hx
        | some w0 =>
          rw [hy] at hx
          obtain rfl : V.bl w0 = v := Option.some.inj hx
          refine ⟨rfl, ?_⟩
          dsimp only [tYes]
          rw [if_pos rfl]
          have hi := (List.getElem?_eq_some_iff.mp hy).1
          refine ⟨_, rfl, w0, rfl, _, upd_same, szL (by rw [List.length_map, List.length_map, List.length_take]; omega), ?_⟩
          rw [upd_upd, List.take_add_one, hy, List.map_append, List.map_append]
          rfl
      · rintro H' rfl
        rw [List.length_map, List.take_length]
        have ht2' : (upd H10 D2 (.lst ((bs.map (!·)).map V.bl))) t2 = some (.tup ((bs.map (!·)).map V.bl)) := by rw [upd_ne n2D2]; exact ht2
        refine ⟨D2, _, rfl, .inl ⟨SqL.of upd_same, fun l hl => ?_⟩⟩
        have ht3 := same_new (fun _ _ z => z) hl (.tup ((bs.map (!·)).map V.bl)) _ _ ht2'
        refine ⟨.tuple ((bs.map (!·)).map PyData.bool), .tuple ((bs.map (!·)).map PyData.bool), .tup (SqT.of ht3) (dp_bls _), .tup (SqT.of upd_same) (dp_bls _), sh_bls _, sh_bls _, _, rfl, ifn (by rw [PyData.eqv, eqv_bls]; rfl) ?_⟩
        exact ⟨_, _, _, _, _, _, _, _, rfl, Same.trans sm (same_new (same_new (Same.trans t6 u610) hD2 _) hl _)⟩
  · rintro σ H' ⟨v1, v2, v3, v4, v5, v6, v7, v8, rfl, sm⟩
    exact q _ (Same.trans sm7 sm)

end
end Vf

set_option maxRecDepth 100000
set_option maxHeartbeats 4000000
namespace Vf
open PySem PySem.Spec PyProof.Rows L2 SX
section
variable {P : Program} {w : World} {K : PySem.W.Frag} {mg : Str → Option Value} {base : Heap}
open LamX
/-- what isinstance says of scalars and the class at CL -/
structure KindsOf (K : PySem.W.Frag) (CL : Addr) : Prop where
  non : PySem.W.kitOne K (.type "NoneType") (.ref CL) = some false
  str : PySem.W.kitOne K (.type "str") (.ref CL) = some false
theorem szS2 {n : Nat} (h : n ≤ 100) : n ≤ sizeLine := szB (by omega)
theorem lam_word {CB CN P0 : Addr} {σ : L2.St} {H : Hp} {Q : VK} {t : XK → TE} {w : Str} (hT : Tabs [(P0, lamQ)] H) (hw : PyData.strOk w = true) (ht : ∀ (H1 : Hp) (E : XK) (QQ : VK), ExtN H H1 → ErAt CB CN H1 (.word w) E → t E σ H1 QQ)
    (q : ∀ H', ExtN H H' → Tabs [(P0, lamQ)] H' → Q (.bl true) H') : tOp (rEqD K) (tLam [(P0, lamQ)] (TTref CB CN) t) (tTup (tCons (tC (.str "word")) (tCons (tC (.str w)) (tCons (tC (.bl true)) tNil)))) σ H Q := by
  refine ⟨hT, fun H1 e1 T1 => ht H1 _ _ e1 (caught (e := .word w) (fun _ _ z => nomatch z) fun H' p sm hp => ?_)⟩
  refine ⟨szS2 (by show 3 ≤ 100; decide), fun p2 hp2 => ?_⟩
  have s1 := same_new sm hp (.tup [.str "word", .str w, .bl true])
  have s2 := same_new s1 hp2 (.tup [.str "word", .str w, .bl true])
  have h1 : (upd (upd H' p (.tup [.str "word", .str w, .bl true])) p2 (.tup [.str "word", .str w, .bl true])) p = some (.tup [.str "word", .str w, .bl true]) := same_new (fun _ _ z => z) hp2 _ _ _ upd_same
  refine ⟨.tuple [.str "word", .str w, .bool true], .tuple [.str "word", .str w, .bool true], dp3t h1, dp3t upd_same, sh3t (by decide +kernel) hw, sh3t (by decide +kernel) hw, ?_⟩
  rw [eqv3t]
  exact q _ (e1.trans (ExtN.of s2)) (T1.ext s2)
theorem lam_num {CB CN P0 : Addr} {σ : L2.St} {H : Hp} {Q : VK} {t : XK → TE} {k : Str} {v : V} {i : Nat} (hi : σ[i]? = some (some v)) (hv : ScR v) (hT : Tabs [(P0, lamQ)] H) (hk : PyData.strOk k = true) (hw : PyData.strOk (reprV v) = true) (ht : ∀ (H1 : Hp) (E : XK) (QQ : VK), ExtN H H1 → ErAt CB CN H1 (.num k v) E → t E σ H1 QQ)
    (q : ∀ H', ExtN H H' → Tabs [(P0, lamQ)] H' → Q (.bl true) H') : tOp (rEqD K) (tLam [(P0, lamQ)] (TTref CB CN) t) (tTup (tCons (tC (.str k)) (tCons (tCB (fun xs H Q => ∃ v, xs = [v] ∧ ScR v ∧ Q (V.str (reprV v)) H) (tCons (tVar i) tNil)) (tCons (tC (.bl true)) tNil)))) σ H Q := by
  refine ⟨hT, fun H1 e1 T1 => ht H1 _ _ e1 (caught (e := .num k v) (fun _ _ z => by cases z; exact hv) fun H' p sm hp => ?_)⟩
  refine ⟨v, hi, v, rfl, hv, szS2 (by show 3 ≤ 100; decide), fun p2 hp2 => ?_⟩
  have s1 := same_new sm hp (.tup [.str k, .str (reprV v), .bl true])
  have s2 := same_new s1 hp2 (.tup [.str k, .str (reprV v), .bl true])
  have h1 : (upd (upd H' p (.tup [.str k, .str (reprV v), .bl true])) p2 (.tup [.str k, .str (reprV v), .bl true])) p = some (.tup [.str k, .str (reprV v), .bl true]) := same_new (fun _ _ z => z) hp2 _ _ _ upd_same
  refine ⟨.tuple [.str k, .str (reprV v), .bool true], .tuple [.str k, .str (reprV v), .bool true], dp3t h1, dp3t upd_same, sh3t hk hw, sh3t hk hw, ?_⟩
  rw [eqv3t]
  exact q _ (e1.trans (ExtN.of s2)) (T1.ext s2)
/-- all but the list at L and the tables stay -/
def Fx (L : Addr) (H H' : Hp) : Prop := ∀ b o, b ≠ L → H b = some o → (∀ ps, o ≠ .tbl ps) → H' b = some o
theorem PenAt.fx {L : Addr} {H H1 : Hp} {p c : Addr} {m : Nat} (h : PenAt H p c m) (f : Fx L H H1) (n : L ≠ p ∧ L ≠ c) : PenAt H1 p c m := by
  obtain ⟨ns, a, d, t, fo, h1, h2, r⟩ := h
  exact ⟨ns, a, d, t, fo, f _ _ n.1.symm h1 (fun _ z => nomatch z), f _ _ n.2.symm h2 (fun _ z => nomatch z), r⟩
theorem fx_ins {L a C dx : Addr} {xs : List V} {fs : List (Str × V)} {H H1 : Hp} (h : H a = some (.ins C dx fs)) (f : Fx L H H1) (hL : H L = some (.lst xs)) : H1 a = some (.ins C dx fs) := f _ _ (fun z => by rw [z, hL] at h; cases h) h (fun _ z => nomatch z)
theorem app_w {CB CN P0 L : Addr} {σ : L2.St} {H : Hp} {D : Ends} {t : XK → TE} {w : Str} {xs : List V} (hσ : σ[2]? = some (some (.ref L))) (hL : H L = some (.lst xs)) (hx : xs.length ≤ 100) (hT : Tabs [(P0, lamQ)] H) (hw : PyData.strOk w = true) (ht : ∀ (H1 : Hp) (E : XK) (QQ : VK), ExtN H H1 → ErAt CB CN H1 (.word w) E → t E σ H1 QQ)
    (q : ∀ H', Fx L H H' → Tabs [(P0, lamQ)] H' → H' L = some (.lst (xs ++ [.bl true])) → D.nx σ H') : tDrop (tBM K "list" rAppend (tVar 2) (tCons (tOp (rEqD K) (tLam [(P0, lamQ)] (TTref CB CN) t) (tTup (tCons (tC (.str "word")) (tCons (tC (.str w)) (tCons (tC (.bl true)) tNil))))) tNil)) D σ H := by
  refine ⟨_, hσ, .inl ⟨rfl, _, SqL.of hL⟩, lam_word hT hw ht fun H' e T' => ?_⟩
  have hL' := e _ _ hL (fun _ z => nomatch z)
  exact ⟨L, _, _, rfl, rfl, hL', szL (by omega), q _ (fun b o n h hn => by rw [upd_ne n]; exact e _ _ h hn) (tabs_upd T' hL') upd_same⟩
theorem app_n {CB CN P0 L : Addr} {σ : L2.St} {H : Hp} {D : Ends} {t : XK → TE} {k : Str} {v : V} {i : Nat} {xs : List V} (hσ : σ[2]? = some (some (.ref L))) (hL : H L = some (.lst xs)) (hx : xs.length ≤ 100) (hi : σ[i]? = some (some v)) (hv : ScR v) (hT : Tabs [(P0, lamQ)] H) (hk : PyData.strOk k = true) (hw : PyData.strOk (reprV v) = true) (ht : ∀ (H1 : Hp) (E : XK) (QQ : VK), ExtN H H1 → ErAt CB CN H1 (.num k v) E → t E σ H1 QQ)
    (q : ∀ H', Fx L H H' → Tabs [(P0, lamQ)] H' → H' L = some (.lst (xs ++ [.bl true])) → D.nx σ H') : tDrop (tBM K "list" rAppend (tVar 2) (tCons (tOp (rEqD K) (tLam [(P0, lamQ)] (TTref CB CN) t) (tTup (tCons (tC (.str k)) (tCons (tCB (fun xs H Q => ∃ v, xs = [v] ∧ ScR v ∧ Q (V.str (reprV v)) H) (tCons (tVar i) tNil)) (tCons (tC (.bl true)) tNil))))) tNil)) D σ H := by
  refine ⟨_, hσ, .inl ⟨rfl, _, SqL.of hL⟩, lam_num hi hv hT hk hw ht fun H' e T' => ?_⟩
  have hL' := e _ _ hL (fun _ z => nomatch z)
  exact ⟨L, _, _, rfl, rfl, hL', szL (by omega), q _ (fun b o n h hn => by rw [upd_ne n]; exact e _ _ h hn) (tabs_upd T' hL') upd_same⟩
/-- no text, told by the heap -/
def Cn (H : Hp) (v : V) : Prop := v = .non ∨ v = .int 3 ∨ ∃ a xs, v = .ref a ∧ H a = some (.lst xs)
theorem Cn.ns {K : PySem.W.Frag} {H : Hp} {v : V} (h : Cn H v) : NotStr K H v := by
  rcases h with rfl | rfl | ⟨a, xs, rfl, h⟩
  · exact ⟨_, .base .non, kit_ty (by decide +kernel)⟩
  · exact ⟨_, .base (.int _), kit_ty (by decide +kernel)⟩
  · exact ⟨_, .base (.lst h), kit_ty (by decide +kernel)⟩
theorem Cn.ks {H H' : Hp} {v : V} (h : Cn H v) (k : Ks H H') : Cn H' v := h.imp id fun z => z.imp id fun ⟨a, xs, e, h⟩ => ⟨a, xs, e, k.lst h⟩
theorem Cn.ext {H H' : Hp} {v : V} (h : Cn H v) (k : ExtN H H') : Cn H' v := h.imp id fun z => z.imp id fun ⟨a, xs, e, h⟩ => ⟨a, xs, e, k _ _ h (fun _ z => nomatch z)⟩
def NoneV (H : Hp) (v : V) : Prop := Cn H v ∨ ∃ x, v = .str x ∧ inV (.str x) l8 = false
theorem NoneV.pt {K : PySem.W.Frag} {H : Hp} {v g : V} (h : NoneV H v) : PtR K H v g (some (.word "test")) := by
  rcases h with h | ⟨x, rfl, h⟩
  · exact .noText h.ns
  · exact .noTest h
def OddV (H : Hp) (v : V) : Prop := Cn H v ∨ ∃ l, v = .str (S l) ∧ l.length ≤ 100000 ∧ lw l = false
theorem OddV.pt {K : PySem.W.Frag} {H : Hp} {k : Str} {v : V} (h : OddV H v) (hk : isW k) : PtR K H (.str k) v (some (.word "argument")) := .noWord hk (h.imp (fun z => z.ns) id)
/-- odd numbers: no whole ones or out of the bounds -/
structure NumV (v : V) (lo hi : Int) : Prop where
  w : (∃ H0 : Prop, v = .non ∨ (∃ x, v = .str x) ∨ ∃ b, v = .bl b) ∨ ∃ i : Int, v = .int i ∧ (i < lo ∨ hi < i)
  s : ScR v
  r : PyData.strOk (reprV v) = true
theorem NumV.pt {K : PySem.W.Frag} {H : Hp} {k : Str} {v : V} {lo hi : Int} (h : NumV v lo hi) (hk : (k = "short" ∧ lo = 0 ∧ hi = 40) ∨ (k = "number" ∧ lo = 1 ∧ hi = 6)) : PtR K H (.str k) v (some (.num k v)) := by
  refine .noNum hk (h.w.imp ?_ id)
  rintro ⟨_, rfl | ⟨x, rfl⟩ | ⟨b, rfl⟩⟩
  · exact ⟨_, false, false, .base .non, kit_ty (by decide +kernel), kit_ty (by decide +kernel), rfl⟩
  · exact ⟨_, false, false, .base (.str x), kit_ty (by decide +kernel), kit_ty (by decide +kernel), rfl⟩
  · exact ⟨_, true, true, .base (.bl b), kit_ty (by decide +kernel), kit_ty (by decide +kernel), rfl⟩
/-- no plain test -/
def AwayV (CL : Addr) (H : Hp) (v : V) : Prop := v = .non ∨ v = .str "all" ∨ ∃ a dx p u w n, v = .ref a ∧ H a = some (.ins CL dx (tF p u w n)) ∧ (p.1 = "from" ∨ n = true)
theorem AwayV.no {K : PySem.W.Frag} {CL : Addr} {H : Hp} {v : V} (KB : KindsOf K CL) (h : AwayV CL H v) : NoPl K CL H v := by
  rcases h with rfl | rfl | ⟨a, dx, p, u, w, n, e, h, z⟩
  · exact .inl ⟨_, .base .non, KB.non⟩
  · exact .inl ⟨_, .base (.str _), KB.str⟩
  · exact .inr ⟨a, dx, p, u, w, n, e, h, z⟩
theorem AwayV.keep {CL : Addr} {H H' : Hp} {v : V} (h : AwayV CL H v) (k : ∀ a dx fs, H a = some (.ins CL dx fs) → H' a = some (.ins CL dx fs)) : AwayV CL H' v := h.imp id fun z => z.imp id fun ⟨a, dx, p, u, w, n, e, h, z⟩ => ⟨a, dx, p, u, w, n, e, k _ _ _ h, z⟩
theorem six {a b c d e f g v : V} (h : v ∈ [a, b, c, d, e, f, g]) : v = a ∨ v = b ∨ v = c ∨ v = d ∨ v = e ∨ v = f ∨ v = g := by simpa using h
theorem five {a b c d e v : V} (h : v ∈ [a, b, c, d, e]) : v = a ∨ v = b ∨ v = c ∨ v = d ∨ v = e := by simpa using h
theorem four {a b c d v : V} (h : v ∈ [a, b, c, d]) : v = a ∨ v = b ∨ v = c ∨ v = d := by simpa using h
theorem three {a b c v : V} (h : v ∈ [a, b, c]) : v = a ∨ v = b ∨ v = c := by simpa using h
theorem ok_areRefused {f cc P0 : Addr} {fd : FuncData} {CBadWord CBadNumber CW CL : Addr} (F : FunC K mg "_law_are_refused" s_areRefused f fd cc) (b : Binds K fd ["_law_pen_here"] []) (T : Tx K w mg) (RF : Rf P w K mg base CBadWord CBadNumber CW cc P0) (A0 : Ca K CL)
    (KB : KindsOf K CL) (C_pick : C8.Cal P w K mg base 2 "_law_pick" sp_pick []) (C_plainTest : CalX P w K mg base 4 "plain_test" (sp_plainTest K CL CBadWord CBadNumber)) (C_rangeTest : CalX P w K mg base 3 "range_test" (sp_rangeTest K CL CBadWord CBadNumber)) (C_otherTest : CalX P w K mg base 3 "other_test" (sp_otherTest K CL CBadWord CBadNumber)) : C8.Cal P w K mg base 8 "_law_are_refused" (sp_areRefused P0) [] := by
  refine cal0c F b sc_areRefused (fun vs H Q E h => ?_) (fun A outer s H vs Q E hr h => ?_)
  · obtain ⟨p, c, m, rfl, _⟩ := h; rfl
  have hu := hu_of hr
  refine ⟨_, (pss_cons (ps_set (i := 1) sc_areRefused.nd rfl (Or.inr rfl) (C8.pe_c C_pick hr (by decide) rfl (pa_cons (pv 0) (pa_cons (pe_lst (pa_cons pe_str (pa_cons pe_str (pa_cons pe_non (pa_cons pe_int (pa_cons (pe_lst (pa_cons pe_str pa_nil)) (pa_cons pe_str (pa_cons pe_str pa_nil)))))))) pa_nil))))
      (pss_cons (ps_set (i := 2) sc_areRefused.nd rfl (Or.inl rfl) (pe_lst (pa_cons (pe_cmpR (op_eqD hr.units) (pe_refd (k := 5) RF T rfl rfl hr (by decide) (lamS_by (sc := C8.fnScope s_areRefused) (by decide +kernel)) rfl (fun _ _ _ _ _ => rfl) (fun A outer s H E f c' hr => (pe_cx C_plainTest hr (by decide) rfl (takes_of rfl rfl rfl rfl) (pa_cons (pv 1) (pa_cons pe_int pa_nil))))) (pe_tup (pa_cons pe_str (pa_cons pe_str (pa_cons pe_bl pa_nil)))) (nomark _)) pa_nil)))
      (pss_cons (ps_set (i := 3) sc_areRefused.nd rfl (Or.inr rfl) (C8.pe_c C_pick hr (by decide) rfl (pa_cons (pv 0) (pa_cons (pe_lst (pa_cons pe_non (pa_cons pe_int (pa_cons pe_str (pa_cons pe_str (pa_cons pe_str (pa_cons (pe_lst (pa_cons pe_str pa_nil)) (pa_cons pe_str pa_nil)))))))) pa_nil))))
      (pss_cons (ps_set (i := 4) sc_areRefused.nd rfl (Or.inr rfl) (C8.pe_c C_pick hr (by decide) rfl (pa_cons (pv 0) (pa_cons (pe_lst (pa_cons pe_str (pa_cons pe_str (pa_cons pe_str (pa_cons pe_str pa_nil))))) pa_nil))))
      (pss_cons (ps_expr (pe_bm PySem.F.plainAttrs_list PySem.F.slot_list_append PySem.F.type_list_append mt_append (pv 2) (pa_cons (pe_cmpR (op_eqD hr.units) (pe_refd (k := 5) RF T rfl rfl hr (by decide) (lamS_by (sc := C8.fnScope s_areRefused) (by decide +kernel)) rfl (fun _ _ _ _ _ => rfl) (fun A outer s H E f c' hr => (pe_cx C_plainTest hr (by decide) rfl (takes_of rfl rfl rfl rfl) (pa_cons (pv 4) (pa_cons (pv 3) pa_nil))))) (pe_tup (pa_cons pe_str (pa_cons pe_str (pa_cons pe_bl pa_nil)))) (nomark _)) pa_nil)))
      (pss_cons (ps_expr (pe_bm PySem.F.plainAttrs_list PySem.F.slot_list_append PySem.F.type_list_append mt_append (pv 2) (pa_cons (pe_cmpR (op_eqD hr.units) (pe_refd (k := 5) RF T rfl rfl hr (by decide) (lamS_by (sc := C8.fnScope s_areRefused) (by decide +kernel)) rfl (fun _ _ _ _ _ => rfl) (fun A outer s H E f c' hr => (pe_cx C_plainTest hr (by decide) rfl (takes_of rfl rfl rfl rfl) (pa_cons pe_str (pa_cons pe_str pa_nil))))) (pe_tup (pa_cons pe_str (pa_cons pe_str (pa_cons pe_bl pa_nil)))) (nomark _)) pa_nil)))
      (pss_cons (ps_asg (pe_tup (pa_cons (C8.pe_c C_pick hr (by decide) rfl (pa_cons (pv 0) (pa_cons (pe_lst (pa_cons (pe_un un_neg pe_int) (pa_cons pe_int (pa_cons pe_non (pa_cons pe_str (pa_cons pe_bl pa_nil)))))) pa_nil))) (pa_cons (C8.pe_c C_pick hr (by decide) rfl (pa_cons (pv 0) (pa_cons (pe_lst (pa_cons pe_int (pa_cons pe_int (pa_cons (pe_un un_neg pe_int) (pa_cons pe_non (pa_cons pe_bl pa_nil)))))) pa_nil))) pa_nil))) (pg_tup (by rfl) (pgs_cons (pg_name (i := 5) sc_areRefused.nd rfl (Or.inr rfl)) (pgs_cons (pg_name (i := 6) sc_areRefused.nd rfl (Or.inr rfl)) pgs_nil))))
      (pss_cons (ps_expr (pe_bm PySem.F.plainAttrs_list PySem.F.slot_list_append PySem.F.type_list_append mt_append (pv 2) (pa_cons (pe_cmpR (op_eqD hr.units) (pe_refd (k := 5) RF T rfl rfl hr (by decide) (lamS_by (sc := C8.fnScope s_areRefused) (by decide +kernel)) rfl (fun _ _ _ _ _ => rfl) (fun A outer s H E f c' hr => (pe_cx C_plainTest hr (by decide) rfl (takes_of rfl rfl rfl rfl) (pa_cons pe_str (pa_cons (pv 5) pa_nil))))) (pe_tup (pa_cons pe_str (pa_cons (pe_callB call_reprS (by rfl) T.z_repr (by decide +kernel) (pa_cons (pv 5) pa_nil)) (pa_cons pe_bl pa_nil)))) (nomark _)) pa_nil)))
      (pss_cons (ps_expr (pe_bm PySem.F.plainAttrs_list PySem.F.slot_list_append PySem.F.type_list_append mt_append (pv 2) (pa_cons (pe_cmpR (op_eqD hr.units) (pe_refd (k := 5) RF T rfl rfl hr (by decide) (lamS_by (sc := C8.fnScope s_areRefused) (by decide +kernel)) rfl (fun _ _ _ _ _ => rfl) (fun A outer s H E f c' hr => (pe_cx C_plainTest hr (by decide) rfl (takes_of rfl rfl rfl rfl) (pa_cons pe_str (pa_cons (pv 6) pa_nil))))) (pe_tup (pa_cons pe_str (pa_cons (pe_callB call_reprS (by rfl) T.z_repr (by decide +kernel) (pa_cons (pv 6) pa_nil)) (pa_cons pe_bl pa_nil)))) (nomark _)) pa_nil)))
      (pss_cons (ps_set (i := 7) sc_areRefused.nd rfl (Or.inr rfl) (pe_cx0 C_plainTest hr (by decide) rfl (pa_cons pe_str (pa_cons pe_int pa_nil))))
      (pss_cons (ps_set (i := 8) sc_areRefused.nd rfl (Or.inr rfl) (C8.pe_c C_pick hr (by decide) rfl (pa_cons (pv 0) (pa_cons (pe_lst (pa_cons pe_non (pa_cons pe_str (pa_cons (pe_cx0 C_otherTest hr (by decide) rfl (pa_cons (pv 7) pa_nil)) (pa_cons (pe_cx0 C_rangeTest hr (by decide) rfl (pa_cons (pv 7) (pa_cons (pv 7) pa_nil))) pa_nil))))) pa_nil))))
      (pss_cons (ps_expr (pe_bm PySem.F.plainAttrs_list PySem.F.slot_list_append PySem.F.type_list_append mt_append (pv 2) (pa_cons (pe_cmpR (op_eqD hr.units) (pe_refd (k := 5) RF T rfl rfl hr (by decide) (lamS_by (sc := C8.fnScope s_areRefused) (by decide +kernel)) rfl (fun _ _ _ _ _ => rfl) (fun A outer s H E f c' hr => (pe_cx C_rangeTest hr (by decide) rfl (takes_of rfl rfl rfl rfl) (pa_cons (pv 8) (pa_cons pe_non pa_nil))))) (pe_tup (pa_cons pe_str (pa_cons pe_str (pa_cons pe_bl pa_nil)))) (nomark _)) pa_nil)))
      (pss_cons (ps_expr (pe_bm PySem.F.plainAttrs_list PySem.F.slot_list_append PySem.F.type_list_append mt_append (pv 2) (pa_cons (pe_cmpR (op_eqD hr.units) (pe_refd (k := 5) RF T rfl rfl hr (by decide) (lamS_by (sc := C8.fnScope s_areRefused) (by decide +kernel)) rfl (fun _ _ _ _ _ => rfl) (fun A outer s H E f c' hr => (pe_cx C_rangeTest hr (by decide) rfl (takes_of rfl rfl rfl rfl) (pa_cons (pv 7) (pa_cons (pv 8) pa_nil))))) (pe_tup (pa_cons pe_str (pa_cons pe_str (pa_cons pe_bl pa_nil)))) (nomark _)) pa_nil)))
      (pss_cons (ps_set (i := 9) sc_areRefused.nd rfl (Or.inr rfl) (C8.pe_c C_pick hr (by decide) rfl (pa_cons (pv 0) (pa_cons (pe_lst (pa_cons pe_non (pa_cons pe_str (pa_cons (pe_cx0 C_otherTest hr (by decide) rfl (pa_cons (pv 7) pa_nil)) pa_nil)))) pa_nil))))
      (pss_one (ps_ret (pe_and (pe_cmpR op_notIn_seq pe_bl (pv 2) rfl) (pe_one (pe_cmpR (op_eqD hr.units) (pe_refd (k := 5) RF T rfl rfl hr (by decide) (lamS_by (sc := C8.fnScope s_areRefused) (by decide +kernel)) rfl (fun _ _ _ _ _ => rfl) (fun A outer s H E f c' hr => (pe_cx C_otherTest hr (by decide) rfl (takes_of rfl rfl rfl rfl) (pa_cons (pv 9) pa_nil)))) (pe_tup (pa_cons pe_str (pa_cons pe_str (pa_cons pe_bl pa_nil)))) (nomark _)))))))))))))))))))), ?_⟩
  obtain ⟨p, c, m, rfl, hp, hm, hT, q⟩ := h
  refine ⟨_, rfl, szS2 (by show 1 ≤ 100; decide), fun L1 n1 => ⟨szS2 (by show 7 ≤ 100; decide), fun La na => ?_⟩⟩
  have hL1 : (upd (upd H L1 (.lst [.str "all"])) La (.lst [.str "", .str "All", .non, .int 3, .ref L1, .str "from", .str "not"])) L1 = some (.lst [.str "all"]) := same_new (fun _ _ z => z) na _ _ _ upd_same
  refine ⟨p, c, m, .ref La, rfl, (hp.new n1).new na, by omega, .inr ⟨La, _, rfl, upd_same, by show 1 ≤ 7; decide, by show 7 ≤ 1000000; decide, fun H2 v k2 p2 hv => ?_⟩⟩
  have T2 := tabs_ks hT (((Ks.new1 n1 _).new na _).trans k2)
  have nv : NoneV H2 v := by
    rcases six hv with rfl | rfl | rfl | rfl | rfl | rfl | rfl
    · exact .inr ⟨_, rfl, by decide +kernel⟩
    · exact .inr ⟨_, rfl, by decide +kernel⟩
    · exact .inl (.inl rfl)
    · exact .inl (.inr (.inl rfl))
    · exact .inl (.inr (.inr ⟨_, _, rfl, k2.lst hL1⟩))
    · exact .inr ⟨_, rfl, by decide +kernel⟩
    · exact .inr ⟨_, rfl, by decide +kernel⟩
  clear hL1 hv k2
  refine lam_word T2 (by decide +kernel) (fun H1 E' QQ e1 he => ?_) fun H3 e3 T3 => ?_
  · refine ⟨_, rfl, v, .int 7, some (.word "test"), rfl, ?_, (fun z => nomatch z), fun e z => by cases z; exact he⟩
    exact (show NoneV H1 v from nv.imp (fun z => z.ext e1) id).pt
  have p3 := p2.ext e3
  refine ⟨szS2 (by show 1 ≤ 100; decide), fun L hL => ?_⟩
  have nLp := p3.ne hL
  have p4 := p3.new (o := .lst [.bl true]) hL
  have T4 := T3.ext (same_new (fun _ _ z => z) hL (.lst [.bl true]))
  have l4 : (upd H3 L (.lst [.bl true])) L = some (.lst [.bl true]) := upd_same
  generalize upd H3 L (.lst [.bl true]) = H4 at p4 T4 l4 ⊢
  clear p3 T3 e3 hL
  refine ⟨_, rfl, szS2 (by show 1 ≤ 100; decide), fun L1 n1 => ⟨szS2 (by show 7 ≤ 100; decide), fun La na => ?_⟩⟩
  have hL1 : (upd (upd H4 L1 (.lst [.str "a"])) La (.lst [.non, .int 3, .str "abcdefg", .str "a\nb", .str "b\ta", .ref L1, .str "\t"])) L1 = some (.lst [.str "a"]) := same_new (fun _ _ z => z) na _ _ _ upd_same
  refine ⟨p, c, m + 1, .ref La, rfl, (p4.new n1).new na, by omega, .inr ⟨La, _, rfl, upd_same, by show 1 ≤ 7; decide, by show 7 ≤ 1000000; decide, fun H5 od k5 p5 hv => ?_⟩⟩
  have k45 := ((Ks.new1 n1 _).new na _).trans k5
  have T5 := tabs_ks T4 k45
  have l5 := k45.lst l4
  have ov : OddV H5 od := by
    rcases six hv with rfl | rfl | rfl | rfl | rfl | rfl | rfl
    · exact .inl (.inl rfl)
    · exact .inl (.inr (.inl rfl))
    · exact .inr ⟨[97, 98, 99, 100, 101, 102, 103], by decide +kernel, by decide, by decide +kernel⟩
    · exact .inr ⟨[97, 10, 98], by decide +kernel, by decide, by decide +kernel⟩
    · exact .inr ⟨[98, 9, 97], by decide +kernel, by decide, by decide +kernel⟩
    · exact .inl (.inr (.inr ⟨_, _, rfl, k5.lst hL1⟩))
    · exact .inr ⟨[9], by decide +kernel, by decide, by decide +kernel⟩
  clear hL1 hv k5 k45 T4 l4 p4 na n1
  refine ⟨_, rfl, szS2 (by show 4 ≤ 100; decide), fun La na => ?_⟩
  refine ⟨p, c, m + 1 + 1, .ref La, rfl, p5.new na, by omega, .inr ⟨La, _, rfl, upd_same, by show 1 ≤ 4; decide, by show 4 ≤ 1000000; decide, fun H6 wd k6 p6 hv => ?_⟩⟩
  have k56 := (Ks.new1 na _).trans k6
  have T6 := tabs_ks T5 k56
  have l6 := k56.lst l5
  have ov6 : OddV H6 od := ov.imp (fun z => z.ks k56) id
  obtain ⟨k, rfl, hk⟩ : ∃ k, wd = .str k ∧ isW k := by
    rcases four hv with rfl | rfl | rfl | rfl
    · exact ⟨_, rfl, .inl rfl⟩
    · exact ⟨_, rfl, .inr (.inl rfl)⟩
    · exact ⟨_, rfl, .inr (.inr (.inl rfl))⟩
    · exact ⟨_, rfl, .inr (.inr (.inr rfl))⟩
  clear ov hv k6 k56 T5 l5 p5 na
  refine app_w (L := L) rfl l6 (by show 1 ≤ 100; decide) T6 (by decide +kernel) (fun H1 E' QQ e1 he => ?_) fun H7 f7 T7 l7 => ?_
  · refine ⟨_, rfl, _, rfl, .str k, od, some (.word "argument"), rfl, ?_, (fun z => nomatch z), fun e z => by cases z; exact he⟩
    exact (show OddV H1 od from ov6.imp (fun z => z.ext e1) id).pt hk
  have p7 := p6.fx f7 nLp
  refine app_w (L := L) rfl l7 (by show 2 ≤ 100; decide) T7 (by decide +kernel) (fun H1 E' QQ e1 he => ?_) fun H8 f8 T8 l8 => ?_
  · exact ⟨.str "last", .str "", some (.word "argument"), rfl, .noBare (.inr rfl) (fun z => nomatch z), (fun z => nomatch z), fun e z => by cases z; exact he⟩
  have p8 := p7.fx f8 nLp
  clear f7 f8 T7 l7 p7 p6 T6 l6 ov6
  refine ⟨_, rfl, ⟨_, rfl, szS2 (by show 5 ≤ 100; decide), fun La na => ?_⟩⟩
  refine ⟨p, c, m + 1 + 1 + 1, .ref La, rfl, p8.new na, by omega, .inr ⟨La, _, rfl, upd_same, by show 1 ≤ 5; decide, by show 5 ≤ 1000000; decide, fun H9 nu k9 p9 hv => ?_⟩⟩
  have k89 := (Ks.new1 na _).trans k9
  have T9 := tabs_ks T8 k89
  have l9 := k89.lst l8
  have nuv : NumV nu 0 40 := by
    rcases five hv with rfl | rfl | rfl | rfl | rfl
    · exact ⟨.inr ⟨_, rfl, by decide⟩, .inr (.inr (.inl ⟨_, rfl, by decide +kernel⟩)), by decide +kernel⟩
    · exact ⟨.inr ⟨_, rfl, by decide⟩, .inr (.inr (.inl ⟨_, rfl, by decide +kernel⟩)), by decide +kernel⟩
    · exact ⟨.inl ⟨True, .inl rfl⟩, .inl rfl, by decide +kernel⟩
    · exact ⟨.inl ⟨True, .inr (.inl ⟨_, rfl⟩)⟩, .inr (.inr (.inr ⟨_, rfl, szB (by decide +kernel)⟩)), by decide +kernel⟩
    · exact ⟨.inl ⟨True, .inr (.inr ⟨_, rfl⟩)⟩, .inr (.inl ⟨_, rfl⟩), by decide +kernel⟩
  clear hv k9 k89 T8 l8 p8 na
  refine ⟨_, rfl, ⟨_, rfl, szS2 (by show 5 ≤ 100; decide), fun La na => ?_⟩⟩
  refine ⟨p, c, m + 1 + 1 + 1 + 1, .ref La, rfl, p9.new na, by omega, .inr ⟨La, _, rfl, upd_same, by show 1 ≤ 5; decide, by show 5 ≤ 1000000; decide, fun H10 le k10 p10 hv => ?_⟩⟩
  have k910 := (Ks.new1 na _).trans k10
  have T10 := tabs_ks T9 k910
  have l10 := k910.lst l9
  have lev : NumV le 1 6 := by
    rcases five hv with rfl | rfl | rfl | rfl | rfl
    · exact ⟨.inr ⟨_, rfl, by decide⟩, .inr (.inr (.inl ⟨_, rfl, by decide +kernel⟩)), by decide +kernel⟩
    · exact ⟨.inr ⟨_, rfl, by decide⟩, .inr (.inr (.inl ⟨_, rfl, by decide +kernel⟩)), by decide +kernel⟩
    · exact ⟨.inr ⟨_, rfl, by decide⟩, .inr (.inr (.inl ⟨_, rfl, by decide +kernel⟩)), by decide +kernel⟩
    · exact ⟨.inl ⟨True, .inl rfl⟩, .inl rfl, by decide +kernel⟩
    · exact ⟨.inl ⟨True, .inr (.inr ⟨_, rfl⟩)⟩, .inr (.inl ⟨_, rfl⟩), by decide +kernel⟩
  clear hv k10 k910 T9 l9 p9 na
  refine ⟨szS2 (by show 2 ≤ 100; decide), fun tp htp => ?_⟩
  have s11 := same_new (fun _ _ z => z) htp (.tup [nu, le])
  have T11 := T10.ext s11
  have l11 := s11 _ _ l10
  have p11 := p10.new (o := .tup [nu, le]) htp
  refine ⟨tp, _, rfl, SqT.of upd_same, rfl, _, _, rfl, _, _, rfl, rfl, ?_⟩
  generalize upd H10 tp (.tup [nu, le]) = H11 at s11 T11 l11 p11 ⊢
  refine app_n (L := L) (v := nu) rfl l11 (by show 3 ≤ 100; decide) rfl nuv.s T11 (by decide +kernel) nuv.r (fun H1 E' QQ e1 he => ?_) fun H12 f12 T12 l12 => ?_
  · exact ⟨_, rfl, .str "short", nu, some (.num "short" nu), rfl, nuv.pt (.inl ⟨rfl, rfl, rfl⟩), (fun z => nomatch z), fun e z => by cases z; exact he⟩
  have p12 := p11.fx f12 nLp
  refine app_n (L := L) (v := le) rfl l12 (by show 4 ≤ 100; decide) rfl lev.s T12 (by decide +kernel) lev.r (fun H1 E' QQ e1 he => ?_) fun H13 f13 T13 l13 => ?_
  · exact ⟨_, rfl, .str "number", le, some (.num "number" le), rfl, lev.pt (.inr ⟨rfl, rfl, rfl⟩), (fun z => nomatch z), fun e z => by cases z; exact he⟩
  have p13 := p12.fx f13 nLp
  clear f12 f13 T12 l12 p12 p11 T11 l11 s11 T10 l10 p10 htp nuv lev
  refine ⟨.str "short", .int 40, none, rfl, .ok (.sh (n := 40) (by decide)), fun _ H14 o k1 hk1 s14 ho => ?_, fun e h => nomatch h⟩
  cases hk1
  have p14 := p13.same s14
  have T14 := T13.ext s14
  have l14 := s14 _ _ l13
  obtain ⟨dx, ho⟩ := ho
  clear s14 T13 l13 p13
  refine ⟨_, rfl, _, rfl, .ref o, rfl, .inr ⟨o, dx, ("short", .int 40), .non, .non, rfl, ho, fun H15 o2 dz s15 ho2 => ?_⟩⟩
  refine ⟨_, rfl, _, rfl, .ref o, .ref o, rfl, .inr ⟨o, dx, ("short", .int 40), .non, .non, rfl, s15 _ _ ho, by dsimp only; decide, .inr ⟨o, dx, ("short", .int 40), .non, .non, rfl, s15 _ _ ho, by dsimp only; decide, fun H16 o3 dy s16 ho3 => ?_⟩⟩⟩
  have p16 := (p14.same s15).same s16
  have T16 := (T14.ext s15).ext s16
  have l16 := s16 _ _ (s15 _ _ l14)
  have ho16 := s16 _ _ (s15 _ _ ho)
  have ho2' := s16 _ _ ho2
  clear p14 T14 l14 ho ho2
  refine ⟨szS2 (by show 4 ≤ 100; decide), fun La na => ⟨p, c, m + 1 + 1 + 1 + 1 + 1, .ref La, rfl, p16.new na, by omega, .inr ⟨La, _, rfl, upd_same, by show 1 ≤ 4; decide, by show 4 ≤ 1000000; decide, fun H17 aw k17 p17 hv => ?_⟩⟩⟩
  have k := (Ks.new1 na (.lst [.non, .str "all", .ref o2, .ref o3])).trans k17
  have ki : ∀ a C d fs, H16 a = some (.ins C d fs) → H17 a = some (.ins C d fs) := fun a C d fs h => k.1 _ _ h (fun _ z => nomatch z)
  have T17 := tabs_ks T16 k
  have l17 := k.lst l16
  have ho17 := ki _ _ _ _ ho16
  have av : AwayV CL H17 aw := by
    rcases four hv with rfl | rfl | rfl | rfl
    · exact .inl rfl
    · exact .inr (.inl rfl)
    · exact .inr (.inr ⟨o2, dz, _, _, _, true, rfl, ki _ _ _ _ ho2', .inr rfl⟩)
    · exact .inr (.inr ⟨o3, dy, _, _, _, false, rfl, ki _ _ _ _ ho3, .inl rfl⟩)
  clear hv k17 k ki T16 l16 p16 ho16 ho2' ho3 na
  have kE : ∀ {H H1 : Hp}, ExtN H H1 → ∀ a dx fs, H a = some (.ins CL dx fs) → H1 a = some (.ins CL dx fs) := fun e a dx fs h => e _ _ h (fun _ z => nomatch z)
  refine app_w (L := L) rfl l17 (by show 5 ≤ 100; decide) T17 (by decide +kernel) (fun H1 E' QQ e1 he => ?_) fun H18 f18 T18 l18 => ?_
  · exact ⟨_, rfl, aw, .non, rfl, .inl ⟨(av.keep (kE e1)).no KB, he⟩⟩
  have p18 := p17.fx f18 nLp
  have av18 := av.keep fun a dx fs h => fx_ins h f18 l17
  have ho18 := fx_ins ho17 f18 l17
  refine app_w (L := L) rfl l18 (by show 6 ≤ 100; decide) T18 (by decide +kernel) (fun H1 E' QQ e1 he => ?_) fun H19 f19 T19 l19 => ?_
  · exact ⟨_, rfl, _, rfl, .ref o, aw, rfl, .inr ⟨o, dx, ("short", .int 40), .non, .non, rfl, kE e1 _ _ _ ho18, by dsimp only; decide, .inl ⟨(av18.keep (kE e1)).no KB, he⟩⟩⟩
  have p19 := p18.fx f19 nLp
  have ho19 := fx_ins ho18 f19 l18
  clear f18 f19 T18 l18 p18 p17 T17 l17 av av18 ho17 ho18
  refine ⟨_, rfl, _, rfl, .ref o, rfl, .inr ⟨o, dx, ("short", .int 40), .non, .non, rfl, ho19, fun H20 o4 dw s20 ho4 => ?_⟩⟩
  have p20 := p19.same s20
  have T20 := T19.ext s20
  have l20 := s20 _ _ l19
  clear p19 T19 l19 ho19
  refine ⟨szS2 (by show 3 ≤ 100; decide), fun La na => ⟨p, c, m + 1 + 1 + 1 + 1 + 1 + 1, .ref La, rfl, p20.new na, by omega, .inr ⟨La, _, rfl, upd_same, by show 1 ≤ 3; decide, by show 3 ≤ 1000000; decide, fun H21 tw k21 p21 hv => ?_⟩⟩⟩
  have k := (Ks.new1 na (.lst [.non, .str "all", .ref o4])).trans k21
  have T21 := tabs_ks T20 k
  have l21 := k.lst l20
  have hv3 := three hv
  have ho4' := k.1 _ _ ho4 (fun _ z => nomatch z)
  clear hv k21 k T20 l20 p20 ho4 na
  refine ⟨_, rfl, L, _, rfl, .inl (SqL.of l21), rfl, by decide, ?_⟩
  refine ⟨_, rfl, ify (by decide) ?_⟩
  refine lam_word T21 (by decide +kernel) (fun H1 E' QQ e1 he => ?_) fun H' _ _ => q H'
  refine ⟨_, rfl, tw, rfl, .inl ⟨?_, he⟩⟩
  rcases hv3 with rfl | rfl | rfl
  · exact .inl ⟨_, .base .non, KB.non⟩
  · exact .inl ⟨_, .base (.str _), KB.str⟩
  · exact .inr ⟨o4, dw, _, _, _, rfl, kE e1 _ _ _ ho4'⟩

end
end Vf

set_option maxRecDepth 100000
set_option maxHeartbeats 4000000
namespace Vf
open PySem PySem.Spec PyProof.Rows L2 SX
section
variable {P : Program} {w : World} {K : PySem.W.Frag} {mg : Str → Option Value} {base : Heap}
open LamX
def sp_law (K : PySem.W.Frag) (P0 : Addr) : Sp := fun vs H Q _ => ∃ (a : Addr) (ns : List Int), vs = [.ref a] ∧ SqL K H a (ns.map V.int) ∧ ns.length ≤ 63 ∧ H P0 = some (.tbl #[]) ∧ ∀ H', Q (.bl true) H'
theorem ck_dp {K : PySem.W.Frag} {H : Hp} {a : Addr} : ∀ {t : Tst}, CkAt H a t → OkT t → Dp K H (.ref a) (tD t) ∧ SeqAt.shaped (tD t) = true
  | .pl p n, h, op => by
    refine ⟨.tup (SqT.of h) (.cons (.str _) (.cons (sc_dp op).1 (.cons .non (.cons .non (.cons (.bl _) .nil))))), ?_⟩
    obtain ⟨h1, h2⟩ := sd_vD op
    show SeqAt.shaped (.tuple [.str p.1, vD p.2, .none, .none, .bool n]) = true
    simp [SeqAt.shaped, PyData.canLay0, PyData.canLayAll0, PyData.depth, PyData.depthAll, okp_w op, h1]
    omega
  | .rg p q n, ⟨b, c, h, hb, hc⟩, ⟨op, oq⟩ => by
    have sub : ∀ {b : Addr} {p : Pt}, H b = some (.tup (cT p .non .non false)) → OkP p → Dp K H (.ref b) (cD p .none .none false) := fun h op => .tup (SqT.of h) (.cons (.str _) (.cons (sc_dp op).1 (.cons .non (.cons .non (.cons (.bl _) .nil)))))
    refine ⟨.tup (SqT.of h) (.cons (.str _) (.cons .non (.cons (sub hb op) (.cons (sub hc oq) (.cons (.bl _) .nil))))), ?_⟩
    obtain ⟨h1, h2⟩ := sd_vD op
    obtain ⟨h3, h4⟩ := sd_vD oq
    show SeqAt.shaped (.tuple [.str "from", .none, .tuple [.str p.1, vD p.2, .none, .none, .bool false], .tuple [.str q.1, vD q.2, .none, .none, .bool false], .bool n]) = true
    simp [SeqAt.shaped, PyData.canLay0, PyData.canLayAll0, PyData.depth, PyData.depthAll, okp_w op, okp_w oq, h1, h3, w_ok (k := "from") (.inr (.inr (.inr (.inr (.inr rfl)))))]
    omega
theorem spl_b (l : List Nat) : ∀ acc, (TL.spl [10] 0 acc l).length ≤ l.length + 1 ∧ ∀ z ∈ TL.spl [10] 0 acc l, z.length ≤ acc.length + l.length := by
  have pre10 : ∀ (d : Nat) (l : List Nat), TL.pre [10] (d :: l) = decide (d = 10) := fun d l => by
    show ([d] == [10]) = _
    by_cases e : d = 10
    · subst e; simp
    · simp [e]
  induction l with
  | nil => intro acc; exact ⟨Nat.le_refl _, fun z h => by rw [List.mem_singleton.mp (show z ∈ [acc] from h)]; exact Nat.le_refl _⟩
  | cons d l ih =>
    intro acc
    by_cases e : d = 10
    · rw [TL.spl_hit (by rw [pre10]; exact decide_eq_true e)]
      obtain ⟨a, b⟩ := ih []
      refine ⟨by show (TL.spl [10] 0 [] l).length + 1 ≤ l.length + 1 + 1; omega, fun z h => ?_⟩
      rcases List.mem_cons.mp h with h | h
      · rw [h]; omega
      · have := b z h
        simp only [List.length_nil, List.length_cons] at this ⊢
        omega
    · rw [TL.spl_miss (by rw [pre10]; exact decide_eq_false e)]
      obtain ⟨a, b⟩ := ih (acc ++ [d])
      refine ⟨by show _ ≤ l.length + 1 + 1; omega, fun z h => ?_⟩
      have := b z h
      rw [List.length_append] at this
      simp only [List.length_cons, List.length_nil] at this ⊢
      omega
/-- a text's lines: not too many, none too long -/
theorem nl_b {l : List Nat} (h : l.length ≤ 100) : ∃ ls : List Str, Txt.split (S l) ("\n" : Str) = ls ∧ ls.length ≤ 1000 ∧ ∀ z ∈ ls, z.length ≤ 1000 := by
  have e : Txt.split (S l) ("\n" : Str) = (TL.spl [10] 0 [] l).map S := by
    refine TL.map_tl_inj ?_
    rw [show ("\n" : Str) = S [10] from by decide +kernel, TL.split_spl (S l) (S [10]) (fun z => nomatch z) (TL.kind_ok (by decide +kernel)), List.map_map]
    show TL.spl [10] 0 [] l = _
    exact (List.map_id _).symm
  obtain ⟨a, b⟩ := spl_b l []
  refine ⟨_, e, by rw [List.length_map]; omega, fun z hz => ?_⟩
  obtain ⟨y, hy, rfl⟩ := List.mem_map.mp hz
  have := b y hy
  rw [S_len]
  simp only [List.length_nil] at this
  omega
theorem ts_ins {CL o : Addr} {H : Hp} : ∀ {t : Tst}, TsAt CL H o t → ∃ dx fs, H o = some (.ins CL dx fs) ∧ fs.lookup ("truths" : Str) = none
  | .pl p n, ⟨dx, h⟩ => ⟨dx, _, h, rfl⟩
  | .rg p q n, ⟨dx, b, c, h, _, _⟩ => ⟨dx, _, h, rfl⟩
theorem right_ok {CL ck la : Addr} {σ : L2.St} {H : Hp} {Q : Bool → Hp → Prop} {t : Tst} {ls : List Str} (h4 : σ[4]? = some (some (.ref ck))) (h6 : σ[6]? = some (some (.ref la))) (hc : CkAt H ck t) (ot : OkT t) (hl : SqL K H la (ls.map V.str)) (l1 : ls.length ≤ 1000) (l2 : ∀ z ∈ ls, z.length ≤ 1000) (q : ∀ H', Same H H' → Q false H') :
    tOr (tNot (tB (tCall (sp_isMadeRight CL) [] C8.E0 (tCons (tVar 4) tNil)))) (tTest (tOp (rNeD K) (tCB (fun xs H_1 Q => ∃ p ys, xs = [V.ref p] ∧ (SqL K H_1 p ys ∨ SqT K H_1 p ys) ∧ ∀ (l : Addr), H_1 l = none → Q (V.ref l) (upd H_1 l (HO.lst ys)))
      (tCons (tMeth CL "truths" (sp_LineTest_truths K CL) [] C8.E0 (tCall (sp_testMade CL) [] C8.E0 (tCons (tVar 4) tNil)) (tCons (tVar 6) tNil)) tNil)) (tCall (sp_lawTruths K) [] C8.E0 (tCons (tVar 4) (tCons (tVar 6) tNil))))) σ H Q := by
  refine ⟨_, h4, ck, t, rfl, hc, ot, fun H1 s1 => ⟨true, rfl, ifn rfl ?_⟩⟩
  refine ⟨_, h4, ck, t, rfl, hc.sm s1, ot, fun H2 o s2 ho => ?_⟩
  obtain ⟨dx, fs, e1, e2⟩ := ts_ins ho
  have s12 := Same.trans s1 s2
  refine ⟨o, dx, fs, rfl, e1, e2, _, h6, o, la, t, ls, rfl, ho, ot, ⟨.inl ((Ks.of s12).seq hl), l1, l2⟩, fun H3 tp s3 htp => ?_⟩
  refine ⟨tp, _, rfl, .inr (SqT.of htp), fun l hl' => ?_⟩
  have s4 := same_new (Same.trans s12 s3) hl' (.lst ((tT ls t).map V.bl))
  have el : (upd H3 l (.lst ((tT ls t).map V.bl))) l = some (.lst ((tT ls t).map V.bl)) := upd_same
  generalize upd H3 l (.lst ((tT ls t).map V.bl)) = H4 at s4 el ⊢
  refine ⟨_, h4, _, h6, ck, la, t, ls, rfl, hc.sm s4, ot, (Ks.of s4).seq hl, l1, l2, fun H5 L s5 hL => ?_⟩
  refine ⟨.list ((tT ls t).map PyData.bool), .list ((tT ls t).map PyData.bool), .lst (SqL.of (s5 _ _ el)) (dp_bls _), .lst (SqL.of hL) (dp_bls _), sh_lbls _, sh_lbls _, _, rfl, ?_⟩
  rw [PyData.eqv, eqv_bls]
  exact q _ (Same.trans s4 s5)
theorem ok_law {f : Addr} {fd : FuncData} (F : C8.Fun K "law" "law" s_law f fd) (T : Tx K w mg) {CB CN CL P0 : Addr} (EQ : Eqc P w K mg base 2 CL (EqR CL)) (C_LineTest_truths : C8.Met P w K mg base 3 CL "truths" (sp_LineTest_truths K CL) [])
    (C_pen : C8.Cal P w K mg base 1 "_law_pen" (sp_pen K) []) (C_signs : C8.Cal P w K mg base 3 "_law_signs" sp_signs []) (C_lawTest : C8.Cal P w K mg base 6 "_law_test" sp_lawTest []) (C_lawText : C8.Cal P w K mg base 3 "_law_text" sp_lawText []) (C_testMade : C8.Cal P w K mg base 6 "_law_test_made" (sp_testMade CL) []) (C_lawTruths : C8.Cal P w K mg base 2 "_law_truths" (sp_lawTruths K) []) (C_isMadeRight : C8.Cal P w K mg base 7 "_law_is_made_right" (sp_isMadeRight CL) []) (C_longText : C8.Cal P w K mg base 4 "_law_long_text" sp_longText []) (C_longTest : C8.Cal P w K mg base 4 "_law_long_test" sp_longTest []) (C_plainTest : CalX P w K mg base 4 "plain_test" (sp_plainTest K CL CB CN)) (C_areRefused : C8.Cal P w K mg base 8 "_law_are_refused" (sp_areRefused P0) []) (C_byHand : C8.Cal P w K mg base 6 "_law_by_hand" sp_byHand []) :
    FnOk P w K mg base C8.CX0 9 f fd ["_law_script"] (sp_law K P0) := by
  refine C8.fn0 F sc_law (fun vs H Q E h => ?_) (fun cdv A outer s H vs Q E hr h => ?_)
  · obtain ⟨a, ns, rfl, _⟩ := h; rfl
  have hu := hu_of hr
  refine ⟨_, (pss_cons (ps_set (i := 1) sc_law.nd rfl (Or.inl rfl) (C8.pe_c C_pen hr (by decide) rfl (pa_cons (pv 0) pa_nil)))
      (pss_cons (ps_set (i := 2) sc_law.nd rfl (Or.inl rfl) (C8.pe_c C_signs hr (by decide) rfl (pa_cons (pv 1) pa_nil)))
      (pss_cons (ps_for PassesOwn.never rfl (pi_range1 (by rfl) T.z_range (pa_cons pe_int pa_nil)) (pg_name (i := 3) sc_law.nd rfl (Or.inl rfl))
      (pss_cons (ps_par (i := 4) (j := 5) (by rfl) sc_law.nd rfl rfl (by decide) rfl rfl (pa_cons (C8.pe_c C_lawTest hr (by decide) rfl (pa_cons (pv 1) (pa_cons (pv 2) pa_nil))) (pa_cons (C8.pe_c C_lawTest hr (by decide) rfl (pa_cons (pv 1) (pa_cons (pv 2) pa_nil))) pa_nil)) (by rfl))
      (pss_cons (ps_set (i := 6) sc_law.nd rfl (Or.inl rfl) (pe_split (C8.pe_c C_lawText hr (by decide) rfl (pa_cons (pv 1) (pa_cons (pv 2) (pa_cons pe_int pa_nil)))) pe_str))
      (C8.pss_cut (ps_if (PW.pt (pw_or (pt_not (pt_val (C8.pe_c C_isMadeRight hr (by decide) rfl (pa_cons (pv 4) pa_nil)))) (pw_or1 (pt_cmpR (op_neD hr.units) (pe_callTy call_list_of (by rfl) T.z_list (by decide +kernel) (pa_cons (C8.pe_mt C_LineTest_truths hr (by decide) (C8.pe_c C_testMade hr (by decide) rfl (pa_cons (pv 4) pa_nil)) (pa_cons (pv 6) pa_nil)) pa_nil)) (C8.pe_c C_lawTruths hr (by decide) rfl (pa_cons (pv 4) (pa_cons (pv 6) pa_nil))) (nomark _)))))
      (pss_one (ps_ret pe_bl))
      pss_nil)
      (pss_cons (ps_if (pt_cmpR (op_neD hr.units) (C8.pe_mt C_LineTest_truths hr (by decide) (C8.pe_c C_testMade hr (by decide) rfl (pa_cons (pv 4) pa_nil)) (pa_cons (pe_callTy call_tuple_of (by rfl) T.z_tuple (by decide +kernel) (pa_cons (pv 6) pa_nil)) pa_nil)) (pe_callTy call_tuple_of (by rfl) T.z_tuple (by decide +kernel) (pa_cons (C8.pe_c C_lawTruths hr (by decide) rfl (pa_cons (pv 4) (pa_cons (pv 6) pa_nil))) pa_nil)) (nomark _))
      (pss_one (ps_ret pe_bl))
      pss_nil)
      (pss_cons (ps_if (pt_cmpR op_ne (pe_cmpR (op_eqC EQ hr (by decide)) (C8.pe_c C_testMade hr (by decide) rfl (pa_cons (pv 4) pa_nil)) (C8.pe_c C_testMade hr (by decide) rfl (pa_cons (pv 5) pa_nil)) (nomark _)) (pe_cmpR (op_eqD hr.units) (pv 4) (pv 5) (nomark _)) (nomark _))
      (pss_one (ps_ret pe_bl))
      pss_nil)
      (pss_cons (ps_par (i := 4) (j := 6) (by rfl) sc_law.nd rfl rfl (by decide) rfl rfl (pa_cons (C8.pe_c C_longTest hr (by decide) rfl (pa_cons (pv 1) pa_nil)) (pa_cons (pe_split (C8.pe_c C_longText hr (by decide) rfl (pa_cons (pv 1) pa_nil)) pe_str) pa_nil)) (by rfl))
      (pss_one (ps_if (PW.pt (pw_or (pt_not (pt_val (C8.pe_c C_isMadeRight hr (by decide) rfl (pa_cons (pv 4) pa_nil)))) (pw_or1 (pt_cmpR (op_neD hr.units) (pe_callTy call_list_of (by rfl) T.z_list (by decide +kernel) (pa_cons (C8.pe_mt C_LineTest_truths hr (by decide) (C8.pe_c C_testMade hr (by decide) rfl (pa_cons (pv 4) pa_nil)) (pa_cons (pv 6) pa_nil)) pa_nil)) (C8.pe_c C_lawTruths hr (by decide) rfl (pa_cons (pv 4) (pa_cons (pv 6) pa_nil))) (nomark _)))))
      (pss_one (ps_ret pe_bl))
      pss_nil)))))))))
      (pss_one (ps_ret (pe_and (pe_c0 C_byHand hr (by decide) rfl) (pe_and (C8.pe_c C_areRefused hr (by decide) rfl (pa_cons (pv 1) pa_nil)) (pe_one (pe_cmpR (op_neC EQ hr (by decide)) (pe_cx0 C_plainTest hr (by decide) rfl (pa_cons pe_str (pa_cons pe_int pa_nil))) (pe_cx0 C_plainTest hr (by decide) rfl (pa_cons pe_str (pa_cons pe_int pa_nil))) (nomark _)))))))))), ?_⟩
  obtain ⟨a, ns, rfl, hs, hl, h0, q⟩ := h
  have hT0 : Tabs [(P0, lamQ)] H := fun p hp => by rw [List.mem_singleton.mp hp]; exact TabS.nil h0
  refine ⟨_, rfl, a, ns, rfl, hs, hl, fun H1 p c k1 p1 => ?_⟩
  refine ⟨_, rfl, p, c, 0, rfl, p1, by decide, fun H2 sg k2 p2 g1 g2 hsg => ?_⟩
  have T2 := tabs_ks hT0 (k1.trans k2)
  refine ⟨_, rfl, by decide, by decide, ?_⟩
  refine for_range (lo := 0) (n := 4) (fun i σ H' => ∃ v3 v4 v5 v6 : Option V, σ = [some (.ref a), some (.ref p), some (.str (S sg)), v3, v4, v5, v6] ∧ PenAt H' p c (1 + 200 * i) ∧ Tabs [(P0, lamQ)] H') ⟨none, none, none, none, rfl, p2, T2⟩ ?_ ?_
  · rintro i σ H3 hi ⟨v3, v4, v5, v6, rfl, p3, T3⟩
    refine ⟨_, rfl, _, rfl, p, c, _, sg, rfl, p3, by omega, g1, by omega, hsg, fun H4 x t k4 p4 ot hx => ?_⟩
    refine ⟨_, rfl, _, rfl, p, c, _, sg, rfl, p4, by omega, g1, by omega, hsg, fun H5 y u k5 p5 ou hy => ?_⟩
    have hx5 := hx.tk k5.tk
    have T5 := tabs_ks T3 (k4.trans k5)
    refine ⟨_, _, rfl, ?_⟩
    clear hx k4 k5 T3 p3 p4
    refine ⟨_, rfl, _, rfl, p, c, _, 12, sg, rfl, p5, by omega, by decide, by omega, sgn_lt hsg, fun H6 tx k6 p6 htx _ => ?_⟩
    obtain ⟨ls, es, l1, l2⟩ := nl_b (show tx.length ≤ 100 by omega)
    refine ⟨⟨_, rfl⟩, _, _, rfl, rfl, rfl, szB (by rw [S_len]; omega), fun la hla => ?_⟩
    rw [es]
    have hx6 := hx5.tk k6.tk
    have hy6 := hy.tk k6.tk
    have T6 := tabs_ks T5 k6
    have s7 := same_new (fun _ _ z => z) hla (.lst (ls.map V.str))
    have hla7 : (upd H6 la (.lst (ls.map V.str))) la = some (.lst (ls.map V.str)) := upd_same
    generalize upd H6 la (.lst (ls.map V.str)) = H7 at s7 hla7 ⊢
    have hx7 := hx6.sm s7
    have hy7 := hy6.sm s7
    have T7 := T6.ext s7
    have p7 := p6.same s7
    clear hx5 hx6 hy hy6 T5 T6 p5 p6 k6 s7
    refine ⟨fun σ' H' => σ' = [some (.ref a), some (.ref p), some (.str (S sg)), some (.int (0 + (i : Int))), some (.ref x), some (.ref y), some (.ref la)] ∧ Same H7 H', ?_, ?_⟩
    · exact right_ok (K := K) rfl rfl hx7 ot (SqL.of hla7) l1 l2 fun H' s => ifF ⟨rfl, s⟩
    rintro σ' H8 ⟨rfl, s8⟩
    have hx8 := hx7.sm s8
    have hy8 := hy7.sm s8
    refine ⟨_, rfl, x, t, rfl, hx8, ot, fun H9 o s9 ho => ?_⟩
    obtain ⟨dx, fs, e1, e2⟩ := ts_ins ho
    have s89 := Same.trans s8 s9
    refine ⟨o, dx, fs, rfl, e1, e2, _, rfl, la, _, rfl, .inl ⟨SqL.of (s89 _ _ hla7), fun tl htl => ?_⟩⟩
    have s10 := same_new s89 htl (.tup (ls.map V.str))
    have ho10 := ho.sm (same_new (fun _ _ z => z) htl (.tup (ls.map V.str)))
    have etl : (upd H9 tl (.tup (ls.map V.str))) tl = some (.tup (ls.map V.str)) := upd_same
    generalize upd H9 tl (.tup (ls.map V.str)) = H10 at s10 ho10 etl ⊢
    refine ⟨o, tl, t, ls, rfl, ho10, ot, ⟨.inr (SqT.of etl), l1, l2⟩, fun H11 tp s11 htp => ?_⟩
    have s711 := Same.trans s10 s11
    refine ⟨_, rfl, _, rfl, x, la, t, ls, rfl, hx7.sm s711, ot, SqL.of (s711 _ _ hla7), l1, l2, fun H12 L s12 hL => ?_⟩
    refine ⟨L, _, rfl, .inl ⟨SqL.of hL, fun tq htq => ?_⟩⟩
    have s13 := same_new s12 htq (.tup ((tT ls t).map V.bl))
    refine ⟨.tuple ((tT ls t).map PyData.bool), .tuple ((tT ls t).map PyData.bool), .tup (SqT.of (s13 _ _ htp)) (dp_bls _), .tup (SqT.of upd_same) (dp_bls _), sh_bls _, sh_bls _, _, rfl, ifn (by rw [PyData.eqv, eqv_bls]; rfl) ?_⟩
    have s713 := Same.trans s711 s13
    generalize upd H12 tq (.tup ((tT ls t).map V.bl)) = H13 at s713 ⊢
    refine ⟨_, rfl, x, t, rfl, hx7.sm s713, ot, fun H14 o1 s14 h14 => ?_⟩
    refine ⟨_, rfl, y, u, rfl, hy7.sm (Same.trans s713 s14), ou, fun H15 o2 s15 h15 => ?_⟩
    obtain ⟨d1, f1, i1, _⟩ := ts_ins (h14.sm s15)
    obtain ⟨d2, f2, i2, _⟩ := ts_ins h15
    refine ⟨o1, o2, _, d1, d2, _, _, rfl, rfl, i1, i2, ⟨t, u, h14.sm s15, h15, ot, ou, rfl⟩, fun H16 s16 => ?_⟩
    have s716 := Same.trans s713 (Same.trans s14 (Same.trans s15 s16))
    obtain ⟨D1, S1⟩ := ck_dp (K := K) (hx7.sm s716) ot
    obtain ⟨D2, S2⟩ := ck_dp (K := K) (hy7.sm s716) ou
    refine ⟨_, rfl, _, rfl, tD t, tD u, D1, D2, S1, S2, rfl, _, rfl, ifn (by rw [Bool.bne_false, decide_eq_true (show V.bl (eqT t u) = V.bl (PyData.eqv (tD t) (tD u)) from rfl)]; rfl) ?_⟩
    have p16 := p7.same s716
    have T16 := T7.ext s716
    clear h14 h15 D1 D2 S1 S2 s16 s15 s14 s713 s13 hL htp hx7 hy7 hx8 hy8 ho ho10 etl e1
    refine ⟨_, rfl, p, c, _, rfl, p16, by omega, fun H17 z v k17 p17 ov hz => ?_⟩
    refine ⟨_, rfl, p, c, _, rfl, p17, by omega, fun H18 l k18 p18 hl18 _ => ?_⟩
    obtain ⟨ls2, es2, l21, l22⟩ := nl_b hl18
    refine ⟨⟨_, rfl⟩, _, _, rfl, rfl, rfl, szB (by rw [S_len]; omega), fun la2 hla2 => ?_⟩
    rw [es2]
    refine ⟨_, _, rfl, ?_⟩
    have s19 := same_new (fun _ _ z => z) hla2 (.lst (ls2.map V.str))
    refine right_ok (K := K) (t := v) (ls := ls2) rfl rfl ((hz.tk k18.tk).sm s19) ov (SqL.of upd_same) l21 l22 fun H20 s20 => ifF ?_
    exact ⟨_, _, _, _, rfl, ((p18.same s19).same s20).mono (by omega), ((tabs_ks T16 (k17.trans k18)).ext s19).ext s20⟩
  · rintro σ H3 ⟨v3, v4, v5, v6, rfl, p3, T3⟩
    refine ⟨rfl, fun H4 s4 => ⟨true, rfl, ifT ?_⟩⟩
    refine ⟨_, rfl, p, c, _, rfl, p3.same s4, by decide, T3.ext s4, fun H5 => ⟨true, rfl, ifT ?_⟩⟩
    refine ⟨.str "short", .int 0, none, rfl, .ok (.sh (n := 0) (by decide)), fun _ H6 o1 k1 hk1 s6 ho1 => ?_, fun e h => nomatch h⟩
    cases hk1
    refine ⟨.str "short", .int 1, none, rfl, .ok (.sh (n := 1) (by decide)), fun _ H7 o2 k2 hk2 s7 ho2 => ?_, fun e h => nomatch h⟩
    cases hk2
    have ho1' := PlAt.sm ho1 s7
    obtain ⟨d1, i1⟩ := id ho1'
    obtain ⟨d2, i2⟩ := id ho2
    have e : eqT (.pl ("short", .int 0) false) (.pl ("short", .int 1) false) = false := by rw [eqT_pl]; simp [vD, PyData.eqv]
    refine ⟨o1, o2, eqT (.pl ("short", .int 0) false) (.pl ("short", .int 1) false), d1, d2, _, _, rfl, rfl, i1, i2, ⟨.pl ("short", .int 0) false, .pl ("short", .int 1) false, ho1', ho2, OkP.sh (n := 0) (by decide), OkP.sh (n := 1) (by decide), rfl⟩, fun H8 s8 => ?_⟩
    rw [e]
    exact q H8

end
end Vf

set_option maxRecDepth 100000
set_option maxHeartbeats 4000000
namespace Vf
open PySem PySem.Spec PyProof.Rows L2 SX
/-- a def of the module with how its arguments bind -/
def Dn (K : PySem.W.Frag) (mg : Str → Option Value) (x : Str) (st : Stmt) (ps : List Str) : Prop := ∃ (f : Addr) (fd : FuncData), C8.Def K mg x st f fd ∧ Binds K fd ps []
theorem useIt {A B : Prop} (h : A) (k : A → B) : B := k h
theorem useT {K : PySem.W.Frag} {h : Heap} {w : World} {mg : Str → Option Value} {B : Prop} (X : K.In h) (T : Tx K w mg) (k : Tx K w mg → B) : B := k T
section
variable {K : PySem.W.Frag} {h : Heap} {mg : Str → Option Value} {x : Str} {st : Stmt} {ps : List Str} {f d : Addr} {od an : Option Addr} {sl : Array (Option Value)} {oc kV dc pm cd ct : Value} {t : Tok} {w : World}
theorem dn_mk (X : K.In h) (G : h.Ns mainGlobals mg) (a : PySem.W.nsIn K mainGlobals x = some (some (.ref f)))
    (l : K.lookup f = some ⟨oc, od, .func (PySem.W.fnOf x x (C8.fnArgs st) (C8.fnBody st) (C8.fnScope st) .none kV dc pm an cd ct), sl⟩) (c : PySem.W.codeIn K cd x = true) (k : PySem.W.keepIn K (.ref f) = true)
    (hb : ∀ (kV doc pm : Value) (an : Option Addr) (cdv ct : Value) (us : List Value), us.length = ps.length → bindArgs (PySem.W.fnOf x x (C8.fnArgs st) (C8.fnBody st) (C8.fnScope st) .none kV doc pm an cdv ct) ⟨us, []⟩ = pure (ps.zip us)) : Dn K mg x st ps := by
  have F : C8.Fun K x x st f (PySem.W.fnOf x x (C8.fnArgs st) (C8.fnBody st) (C8.fnScope st) .none kV dc pm an cd ct) := ⟨oc, od, .none, kV, dc, pm, an, cd, ct, sl, rfl, l, c⟩
  exact ⟨f, _, ⟨F, PySem.W.mg_of X G a, k⟩, F.binds rfl hb⟩
theorem cst_str {n y : Str} {z : List Nat} (X : K.In h) (G : h.Ns mainGlobals mg) (a : PySem.W.nsIn K mainGlobals n = some (some (.str y t))) (e : y = S z) : ∃ u, mg n = some u ∧ RelV (.str (S z)) u :=
  ⟨_, PySem.W.mg_of X G a, ⟨t, by rw [e]⟩⟩
theorem cst_int {n : Str} {i : Int} (X : K.In h) (G : h.Ns mainGlobals mg) (a : PySem.W.nsIn K mainGlobals n = some (some (.int i t))) : ∃ u, mg n = some u ∧ RelV (.int i) u :=
  ⟨_, PySem.W.mg_of X G a, ⟨t, rfl⟩⟩
theorem cst_kd {n : Str} {es : Array DictEntry} {k : Nat} {g : Str → Option V} (X : K.In h) (G : h.Ns mainGlobals mg) (a : PySem.W.nsIn K mainGlobals n = some (some (.ref d))) (l : K.lookup d = some ⟨.type "dict", none, .dict es k, #[]⟩)
    (hk : PySem.W.KeysLit w.params es.toList) (low : (d == sysModules) = false) (hf : ∀ z, RelO (g z) (findBy Value.isStrOf es z)) : ∃ d, (∃ u, mg n = some u ∧ RelV (.ref d) u) ∧ KD K w d g :=
  ⟨d, ⟨_, PySem.W.mg_of X G a, rfl⟩, es, k, l, hk, low, hf⟩
end
/-- a class of errors -/
structure Ec (K : PySem.W.Frag) (mg : Str → Option Value) (n : Str) (C : Addr) : Prop where
  g : mg n = some (.ref C)
  o : OexC K C
  e : ExcC K C
  x : XfC K C
/-! ### the classes -/
/-- the class above all of them -/
def Wc (K : PySem.W.Frag) (W : Addr) : Prop := PySem.W.isClsIn K W = true ∧ PySem.W.typeIn K (.ref W) = some (.type "type")
/-- a class just beneath it -/
def Cb (K : PySem.W.Frag) (C W : Addr) : Prop := PySem.W.typeIn K (.ref C) = some (.type "type") ∧ ∃ cd : ClassData, PySem.W.clsIn K C = some cd ∧ cd.mro = [.ref C, .ref W, .type "ValueError", .type "Exception", .type "BaseException", .type "object"]
def Mt (K : PySem.W.Frag) : Prop := PySem.W.specialIn K (.builtin "object.__class__") "__get__" = some (some (.builtin "getset_descriptor.__get__")) ∧ PySem.W.takesIn K (.builtin "object.__class__") = some true
structure Cc (K : PySem.W.Frag) (mg : Str → Option Value) (n : Str) (C W : Addr) : Prop where
  ec : Ec K mg n C
  b : Cb K C W
structure Kc (K : PySem.W.Frag) (mg : Str → Option Value) (n : Str) (C W : Addr) (fs : List Str) (st : Stmt) : Prop where
  c : Cc K mg n C W
  no : ∀ f ∈ fs, PySem.W.findIn K (.ref C) f = some none
  ne : fs ≠ []
  i : ∃ (fI : Addr) (fd : FuncData) (q : Str), PySem.W.findIn K (.ref C) "__init__" = some (some (.ref fI)) ∧ PySem.W.typeIn K (.ref fI) = some (.type "function") ∧ C8.Fun K "__init__" q st fI fd ∧ Binds K fd (("self" : Str) :: fs) []
structure Kc0 (K : PySem.W.Frag) (mg : Str → Option Value) (n : Str) (C W : Addr) : Prop where
  c : Cc K mg n C W
  x : PySem.W.excIn K C [.type "ValueError", .type "Exception", .type "BaseException", .type "object"] "ValueError.__new__" = true
section
variable {K : PySem.W.Frag} {h : Heap} {mg : Str → Option Value} {w : World}
theorem wc_mk {n : Str} {W : Addr} (X : K.In h) (G : h.Ns mainGlobals mg) (a : PySem.W.nsIn K mainGlobals n = some (some (.ref W))) (c : PySem.W.isClsIn K W = true) (k : PySem.W.typeIn K (.ref W) = some (.type "type")) :
    mg n = some (.ref W) ∧ Wc K W := ⟨PySem.W.mg_of X G a, c, k⟩
theorem mt_mk (_ : K.In h) (n : PySem.W.specialIn K (.builtin "object.__class__") "__get__" = some (some (.builtin "getset_descriptor.__get__"))) (t : PySem.W.takesIn K (.builtin "object.__class__") = some true) : Mt K := ⟨n, t⟩
theorem cl_mk {n : Str} {C W N : Addr} {nm q : Str} {bs : List Value} {sn : List Str} {sub : List Value} {ab : Bool} {col : Option Bool} {dd : Option Addr} {k0 k1 k2 k3 k5 : Option Value} (X : K.In h) (G : h.Ns mainGlobals mg) (_w : mg "WorkshopError" = some (.ref W) ∧ Wc K W) (M : Mt K)
    (a : PySem.W.nsIn K mainGlobals n = some (some (.ref C))) (l : K.lookup C = some (excClassObj nm q C N bs [.ref W, .type "ValueError", .type "Exception", .type "BaseException", .type "object"] true sn sub ab col dd k0 k1 k2 k3 k5 "ValueError.__new__"))
    (s : PySem.W.findIn K (.ref C) "__setattr__" = some (some (.builtin "object.__setattr__"))) (b : PySem.W.subIn K (.ref C) (.type "BaseException") = some true) (y : PySem.W.typeIn K (.ref C) = some (.type "type")) (k : PySem.W.keepIn K (.ref C) = true)
    (g : PySem.W.findIn K (.ref C) "__getattribute__" = some (some (.builtin "BaseException.__getattribute__"))) (hh : PySem.W.findIn K (.ref C) "__getattr__" = some none) (d : PySem.W.hasDictIn K C = true)
    (e : PySem.W.findIn K (.ref C) "__class__" = some (some (.builtin "object.__class__"))) (m : PySem.W.mroIn K C (.type "object") = some true) : Cc K mg n C W :=
  ⟨⟨PySem.W.mg_of X G a, ⟨⟨nm, q, N, bs, _, sn, sub, ab, col, dd, k0, k1, k2, k3, k5, l, rfl⟩, s, b, y, k⟩, ⟨g, hh, b, d, e, M.1, M.2, m⟩, ⟨g, hh, b, d⟩⟩, y, _, (by unfold PySem.W.clsIn; rw [show List.lookup C K = _ from l]), rfl⟩
section
variable {n : Str} {C W fI : Addr} {q f0 f1 f2 : Str} {st : Stmt} {ps : List Str} {oc kV dc pm cd ct : Value} {od an : Option Addr} {sl : Array (Option Value)}
theorem kc_mk {fs : List Str} (c : Cc K mg n C W) (ne : fs ≠ []) (no : ∀ f ∈ fs, PySem.W.findIn K (.ref C) f = some none) (i : PySem.W.findIn K (.ref C) "__init__" = some (some (.ref fI))) (t : PySem.W.typeIn K (.ref fI) = some (.type "function"))
    (l : K.lookup fI = some ⟨oc, od, .func (PySem.W.fnOf "__init__" q (C8.fnArgs st) (C8.fnBody st) (C8.fnScope st) .none kV dc pm an cd ct), sl⟩) (cc : PySem.W.codeIn K cd q = true)
    (hb : ∀ (kV doc pm : Value) (an : Option Addr) (cdv ct : Value) (us : List Value), us.length = (("self" : Str) :: fs).length → bindArgs (PySem.W.fnOf "__init__" q (C8.fnArgs st) (C8.fnBody st) (C8.fnScope st) .none kV doc pm an cdv ct) ⟨us, []⟩ = pure (List.zip (("self" : Str) :: fs) us)) : Kc K mg n C W fs st := by
  have F : C8.Fun K "__init__" q st fI (PySem.W.fnOf "__init__" q (C8.fnArgs st) (C8.fnBody st) (C8.fnScope st) .none kV dc pm an cd ct) := ⟨oc, od, .none, kV, dc, pm, an, cd, ct, sl, rfl, l, cc⟩
  exact ⟨c, no, ne, fI, _, q, i, t, F, F.binds rfl hb⟩
theorem kc_mk1 (c : Cc K mg n C W) (n0 : PySem.W.findIn K (.ref C) f0 = some none) (i : PySem.W.findIn K (.ref C) "__init__" = some (some (.ref fI))) (t : PySem.W.typeIn K (.ref fI) = some (.type "function"))
    (l : K.lookup fI = some ⟨oc, od, .func (PySem.W.fnOf "__init__" q (C8.fnArgs st) (C8.fnBody st) (C8.fnScope st) .none kV dc pm an cd ct), sl⟩) (cc : PySem.W.codeIn K cd q = true)
    (hb : ∀ (kV doc pm : Value) (an : Option Addr) (cdv ct : Value) (us : List Value), us.length = 2 → bindArgs (PySem.W.fnOf "__init__" q (C8.fnArgs st) (C8.fnBody st) (C8.fnScope st) .none kV doc pm an cdv ct) ⟨us, []⟩ = pure (List.zip [("self" : Str), f0] us)) : Kc K mg n C W [f0] st :=
  kc_mk c (fun z => nomatch z) (fun f hf => by rw [List.mem_singleton.mp hf]; exact n0) i t l cc hb
theorem kc_mk2 (c : Cc K mg n C W) (n0 : PySem.W.findIn K (.ref C) f0 = some none) (n1 : PySem.W.findIn K (.ref C) f1 = some none) (i : PySem.W.findIn K (.ref C) "__init__" = some (some (.ref fI))) (t : PySem.W.typeIn K (.ref fI) = some (.type "function"))
    (l : K.lookup fI = some ⟨oc, od, .func (PySem.W.fnOf "__init__" q (C8.fnArgs st) (C8.fnBody st) (C8.fnScope st) .none kV dc pm an cd ct), sl⟩) (cc : PySem.W.codeIn K cd q = true)
    (hb : ∀ (kV doc pm : Value) (an : Option Addr) (cdv ct : Value) (us : List Value), us.length = 3 → bindArgs (PySem.W.fnOf "__init__" q (C8.fnArgs st) (C8.fnBody st) (C8.fnScope st) .none kV doc pm an cdv ct) ⟨us, []⟩ = pure (List.zip [("self" : Str), f0, f1] us)) : Kc K mg n C W [f0, f1] st :=
  kc_mk c (fun z => nomatch z) (fun f hf => by
    simp only [List.mem_cons, List.not_mem_nil, or_false] at hf
    rcases hf with rfl | rfl <;> assumption) i t l cc hb
theorem kc_mk3 (c : Cc K mg n C W) (n0 : PySem.W.findIn K (.ref C) f0 = some none) (n1 : PySem.W.findIn K (.ref C) f1 = some none) (n2 : PySem.W.findIn K (.ref C) f2 = some none) (i : PySem.W.findIn K (.ref C) "__init__" = some (some (.ref fI))) (t : PySem.W.typeIn K (.ref fI) = some (.type "function"))
    (l : K.lookup fI = some ⟨oc, od, .func (PySem.W.fnOf "__init__" q (C8.fnArgs st) (C8.fnBody st) (C8.fnScope st) .none kV dc pm an cd ct), sl⟩) (cc : PySem.W.codeIn K cd q = true)
    (hb : ∀ (kV doc pm : Value) (an : Option Addr) (cdv ct : Value) (us : List Value), us.length = 4 → bindArgs (PySem.W.fnOf "__init__" q (C8.fnArgs st) (C8.fnBody st) (C8.fnScope st) .none kV doc pm an cdv ct) ⟨us, []⟩ = pure (List.zip [("self" : Str), f0, f1, f2] us)) : Kc K mg n C W [f0, f1, f2] st :=
  kc_mk c (fun z => nomatch z) (fun f hf => by
    simp only [List.mem_cons, List.not_mem_nil, or_false] at hf
    rcases hf with rfl | rfl | rfl <;> assumption) i t l cc hb
theorem kc_mk0 (c : Cc K mg n C W) (x : PySem.W.excIn K C [.type "ValueError", .type "Exception", .type "BaseException", .type "object"] "ValueError.__new__" = true) : Kc0 K mg n C W := ⟨c, x⟩
theorem rk_mk {P : Program} {base : Heap} {fs : List Str} (k : Kc K mg n C W fs st)
    (ok : ∀ {f : Addr} {fd : FuncData} {q : Str}, OexC K C → (∀ f ∈ fs, PySem.W.findIn K (.ref C) f = some none) → C8.Fun K "__init__" q st f fd → FnOk P w K mg base C8.CX0 1 f fd (("self" : Str) :: fs) (sp_inx C fs)) : Rk P w K mg base n C fs := by
  obtain ⟨fI, fd, q, i, t, F, b⟩ := k.i
  exact ⟨⟨k.c.ec.g, k.c.ec.o, k.c.ec.x⟩, k.no, fI, fd, _, i, t, ok k.c.ec.o k.no F, b⟩
end
end
/-- the class of tests, told once -/
structure Lt (K : PySem.W.Frag) (mg : Str → Option Value) (C fI fE fT : Addr) : Prop where
  g : mg "LineTest" = some (.ref C)
  a : Ca K C
  mI : Mk K C fI
  eq : OwnC K C fE
  tr : Meth K C "truths" fT
section
variable {K : PySem.W.Frag} {h : Heap} {mg : Str → Option Value} {w : World}
theorem lt_mk {C fI fE fT N : Addr} {nm q : Str} {bs : List Value} {hdct : Bool} {sn : List Str} {sub : List Value} {ab : Bool} {col : Option Bool} {dd : Option Addr} {k0 k1 k2 k3 k5 : Option Value} {newId : String} (X : K.In h) (G : h.Ns mainGlobals mg) (M : Mt K)
    (a : PySem.W.nsIn K mainGlobals "LineTest" = some (some (.ref C))) (l : K.lookup C = some (excClassObj nm q C N bs [.type "object"] hdct sn sub ab col dd k0 k1 k2 k3 k5 newId))
    (pg : PySem.W.plainGet K C Str.empty = true) (hd : PySem.W.hasDictIn K C = true) (po : PySem.W.plainOver K C = true) (sa : PySem.W.findIn K (.ref C) "__setattr__" = some (some (.builtin "object.__setattr__")))
    (e : PySem.W.findIn K (.ref C) "__class__" = some (some (.builtin "object.__class__"))) (m : PySem.W.mroIn K C (.type "object") = some true)
    (n1 : PySem.W.findIn K (.ref C) "word" = some none) (n2 : PySem.W.findIn K (.ref C) "argument" = some none) (n3 : PySem.W.findIn K (.ref C) "first" = some none) (n4 : PySem.W.findIn K (.ref C) "second" = some none) (n5 : PySem.W.findIn K (.ref C) "negated" = some none)
    (mk : PySem.W.makesIn K C = true) (i : PySem.W.findIn K (.ref C) "__init__" = some (some (.ref fI))) (fi : PySem.W.isFn K (.ref fI) = true) (kp : PySem.W.keepIn K (.ref C) = true)
    (no : PySem.W.nsOkIn K N = true) (e1 : PySem.W.nsIn K N "__eq__" = some (some (.ref fE))) (e2 : PySem.W.nsIn K N "__ne__" = some none) (e3 : PySem.W.findIn K (.ref C) "__eq__" = some (some (.ref fE))) (fe : PySem.W.isFn K (.ref fE) = true)
    (t : PySem.W.findIn K (.ref C) "truths" = some (some (.ref fT))) (ft : PySem.W.isFn K (.ref fT) = true) (kt : PySem.W.keepIn K (.ref fT) = true) : Lt K mg C fI fE fT where
  g := PySem.W.mg_of X G a
  a := ⟨⟨⟨pg, hd, po, sa⟩, e, M.1, M.2, m, by unfold PySem.W.kitOne; exact if_pos (beq_self_eq_true _)⟩, n1, n2, n3, n4, n5⟩
  mI := ⟨mk, i, fi, kp⟩
  eq := ⟨⟨nm, q, N, bs, hdct, sn, sub, ab, col, dd, k0, k1, k2, k3, k5, newId, l, no, e1, e2⟩, e3, fe⟩
  tr := ⟨t, ft, kt⟩
theorem fn_mk {m q : Str} {st : Stmt} {ps : List Str} {f : Addr} {od an : Option Addr} {sl : Array (Option Value)} {oc kV dc pm cd ct : Value}
    (l : K.lookup f = some ⟨oc, od, .func (PySem.W.fnOf m q (C8.fnArgs st) (C8.fnBody st) (C8.fnScope st) .none kV dc pm an cd ct), sl⟩) (c : PySem.W.codeIn K cd q = true)
    (hb : ∀ (kV doc pm : Value) (an : Option Addr) (cdv ct : Value) (us : List Value), us.length = ps.length → bindArgs (PySem.W.fnOf m q (C8.fnArgs st) (C8.fnBody st) (C8.fnScope st) .none kV doc pm an cdv ct) ⟨us, []⟩ = pure (ps.zip us)) : ∃ (q : Str) (fd : FuncData), C8.Fun K m q st f fd ∧ Binds K fd ps [] := by
  have F : C8.Fun K m q st f (PySem.W.fnOf m q (C8.fnArgs st) (C8.fnBody st) (C8.fnScope st) .none kV dc pm an cd ct) := ⟨oc, od, .none, kV, dc, pm, an, cd, ct, sl, rfl, l, c⟩
  exact ⟨q, _, F, F.binds rfl hb⟩
theorem fnm_mk {m q : Str} {st : Stmt} {ps : List Str} {C f : Addr} {od an : Option Addr} {sl : Array (Option Value)} {oc kV dc pm cd ct : Value} (_ : PySem.W.findIn K (.ref C) m = some (some (.ref f)))
    (l : K.lookup f = some ⟨oc, od, .func (PySem.W.fnOf m q (C8.fnArgs st) (C8.fnBody st) (C8.fnScope st) .none kV dc pm an cd ct), sl⟩) (c : PySem.W.codeIn K cd q = true)
    (hb : ∀ (kV doc pm : Value) (an : Option Addr) (cdv ct : Value) (us : List Value), us.length = ps.length → bindArgs (PySem.W.fnOf m q (C8.fnArgs st) (C8.fnBody st) (C8.fnScope st) .none kV doc pm an cdv ct) ⟨us, []⟩ = pure (ps.zip us)) : ∃ (q : Str) (fd : FuncData), C8.Fun K m q st f fd ∧ Binds K fd ps [] := fn_mk l c hb
theorem cst_tup {n : Str} {d : Addr} {xs : List V} {its : Array Value} {od : Option Addr} {sl : Array (Option Value)} {k : Nat} (X : K.In h) (G : h.Ns mainGlobals mg) (a : PySem.W.nsIn K mainGlobals n = some (some (.ref d))) (l : K.lookup d = some ⟨.type "tuple", od, .seq its k, sl⟩) (v : Vals xs its.toList) (z : its.size ≤ 100) :
    ∃ d, (∃ u, mg n = some u ∧ RelV (.ref d) u) ∧ ∀ H : Hp, SqT K H d xs := ⟨d, ⟨_, PySem.W.mg_of X G a, rfl⟩, fun _ => .inr ⟨_, its, k, l, rfl, rfl, szS2 z, v⟩⟩
theorem kd2r {k1 k2 : Str} {a b : Addr} {h1 h2 : Int} {t1 t2 : Tok} (z : Str) :
    RelO (if z = k1 then some (V.ref a) else if z = k2 then some (.ref b) else none) (findBy Value.isStrOf #[⟨h1, .str k1 t1, .ref a⟩, ⟨h2, .str k2 t2, .ref b⟩] z) := by
  unfold findBy
  show RelO _ (([(⟨h1, .str k1 t1, .ref a⟩ : DictEntry), ⟨h2, .str k2 t2, .ref b⟩].toArray.find? fun e => Value.isStrOf z e.key).map (·.val))
  rw [List.find?_toArray]
  have q : ∀ (k : Str) (t : Tok), Value.isStrOf z (.str k t) = decide (z = k) := fun k t => by
    show (k == z) = _
    by_cases e : z = k
    · subst e; rw [decide_eq_true rfl]; exact beq_self_eq_true _
    · rw [decide_eq_false e]; exact beq_eq_false_iff_ne.mpr fun y => e y.symm
  by_cases e1 : z = k1
  · rw [if_pos e1, List.find?_cons_of_pos (by show Value.isStrOf z (.str k1 t1) = true; rw [q]; exact decide_eq_true e1)]
    exact rfl
  · rw [if_neg e1, List.find?_cons_of_neg (by show ¬ Value.isStrOf z (.str k1 t1) = true; rw [q, decide_eq_false e1]; exact Bool.false_ne_true)]
    by_cases e2 : z = k2
    · rw [if_pos e2, List.find?_cons_of_pos (by show Value.isStrOf z (.str k2 t2) = true; rw [q]; exact decide_eq_true e2)]
      exact rfl
    · rw [if_neg e2, List.find?_cons_of_neg (by show ¬ Value.isStrOf z (.str k2 t2) = true; rw [q, decide_eq_false e2]; exact Bool.false_ne_true)]
      exact True.intro
theorem cst_bounds {d da db : Addr} {h1 h2 : Int} {t1 t2 t3 t4 t5 t6 : Tok} {n n1 n2 : Nat} {o1 o2 : Option Addr} {s1 s2 : Array (Option Value)} (X : K.In h) (G : h.Ns mainGlobals mg) (a : PySem.W.nsIn K mainGlobals "BOUNDS" = some (some (.ref d)))
    (l : K.lookup d = some ⟨.type "dict", none, .dict #[⟨h1, .str "short" t1, .ref da⟩, ⟨h2, .str "number" t2, .ref db⟩] n, #[]⟩) (hk : PySem.W.KeysLit w.params [⟨h1, .str "short" t1, .ref da⟩, ⟨h2, .str "number" t2, .ref db⟩]) (low : (d == sysModules) = false)
    (la : K.lookup da = some ⟨.type "tuple", o1, .seq #[.int 0 t3, .int 40 t4] n1, s1⟩) (lb : K.lookup db = some ⟨.type "tuple", o2, .seq #[.int 1 t5, .int 6 t6] n2, s2⟩) :
    ∃ d, (∃ u, mg "BOUNDS" = some u ∧ RelV (.ref d) u) ∧ ∃ a b, KD K w d (fun z => if z = "short" then some (.ref a) else if z = "number" then some (.ref b) else none) ∧ (∀ H : Hp, SqT K H a [.int 0, .int 40]) ∧ ∀ H : Hp, SqT K H b [.int 1, .int 6] :=
  ⟨d, ⟨_, PySem.W.mg_of X G a, rfl⟩, da, db, ⟨_, n, l, hk, low, kd2r⟩, fun _ => .inr ⟨_, _, n1, la, rfl, rfl, szS2 (by show 2 ≤ 100; decide), .cons ⟨_, rfl⟩ (.cons ⟨_, rfl⟩ .nil)⟩, fun _ => .inr ⟨_, _, n2, lb, rfl, rfl, szS2 (by show 2 ≤ 100; decide), .cons ⟨_, rfl⟩ (.cons ⟨_, rfl⟩ .nil)⟩⟩
theorem dn_mkD {x : Str} {st : Stmt} {ps : List Str} {f tT : Addr} {od an td : Option Addr} {sl tsl : Array (Option Value)} {oc kV dc pm cd ct tc : Value} {m : Nat} (X : K.In h) (G : h.Ns mainGlobals mg) (a : PySem.W.nsIn K mainGlobals x = some (some (.ref f)))
    (l : K.lookup f = some ⟨oc, od, .func (PySem.W.fnOf x x (C8.fnArgs st) (C8.fnBody st) (C8.fnScope st) (.ref tT) kV dc pm an cd ct), sl⟩) (lT : K.lookup tT = some ⟨tc, td, .seq #[.none] m, tsl⟩) (c : PySem.W.codeIn K cd x = true) (k : PySem.W.keepIn K (.ref f) = true)
    (hb : ∀ (T : Addr) (kV doc pm : Value) (an : Option Addr) (cdv ct : Value) (us its : List Value), us.length = ps.length → its.length = 1 → ∃ k, bindArgs (PySem.W.fnOf x x (C8.fnArgs st) (C8.fnBody st) (C8.fnScope st) (.ref T) kV doc pm an cdv ct) ⟨us, []⟩ = seqItems? (.ref T) >>= k ∧ k (some its.toArray) = pure (ps.zip us)) : Dn K mg x st ps := by
  have D : FunD K x x (C8.fnArgs st) (C8.fnBody st) (C8.fnScope st) [.non] [] f (PySem.W.fnOf x x (C8.fnArgs st) (C8.fnBody st) (C8.fnScope st) (.ref tT) kV dc pm an cd ct) :=
    ⟨⟨oc, od, .ref tT, kV, dc, pm, an, cd, ct, sl, rfl, l, c, .inr ⟨fun z => (nomatch z), tT, _, [.none], m, rfl, lT, rfl, .cons rfl .nil⟩, .inl rfl⟩, k⟩
  obtain ⟨ds, v, b⟩ := FunD.binds1 (ps := ps) D ps.length 1 (fun z => nomatch z) rfl (fun T kV doc pm an cdv ct us its h1 h2 => by
    obtain ⟨k, e1, e2⟩ := hb T kV doc pm an cdv ct us its h1 h2
    refine ⟨k, e1, ?_⟩
    rw [show its.drop 1 = [] from List.drop_eq_nil_of_le (Nat.le_of_eq h2), List.append_nil]
    exact e2)
  cases v
  exact ⟨f, _, ⟨⟨oc, od, .ref tT, kV, dc, pm, an, cd, ct, sl, rfl, l, c⟩, PySem.W.mg_of X G a, k⟩, b⟩
theorem xf_mk {CB CN CW : Addr} (cB : Cc K mg "BadWord" CB CW) (cN : Cc K mg "BadNumber" CN CW) (bb : PySem.W.exmOne K (.ref CB) (.ref CB) = some true) (nb : PySem.W.exmOne K (.ref CN) (.ref CB) = some false) (nn : PySem.W.exmOne K (.ref CN) (.ref CN) = some true) (bn : PySem.W.exmOne K (.ref CB) (.ref CN) = some false)
    (kb : PySem.W.kitOne K (.ref CB) (.ref CW) = some true) (kn : PySem.W.kitOne K (.ref CN) (.ref CW) = some true) : XF K CB CN CW := ⟨bb, nb, nn, bn, kb, kn, cB.ec.e, cN.ec.e⟩
theorem kinds_mk {C fI fE fT : Addr} (_ : Lt K mg C fI fE fT) (a : PySem.W.kitOne K (.type "NoneType") (.ref C) = some false) (b : PySem.W.kitOne K (.type "str") (.ref C) = some false) : KindsOf K C := ⟨a, b⟩
theorem fc_mk {x : Str} {st : Stmt} {ps : List Str} {f cc : Addr} {od an : Option Addr} {sl : Array (Option Value)} {oc kV dc pm ct : Value} (X : K.In h) (G : h.Ns mainGlobals mg) (a : PySem.W.nsIn K mainGlobals x = some (some (.ref f)))
    (l : K.lookup f = some ⟨oc, od, .func (PySem.W.fnOf x x (C8.fnArgs st) (C8.fnBody st) (C8.fnScope st) .none kV dc pm an (.ref cc) ct), sl⟩) (c : PySem.W.codeIn K (.ref cc) x = true) (k : PySem.W.keepIn K (.ref f) = true)
    (hb : ∀ (kV doc pm : Value) (an : Option Addr) (cdv ct : Value) (us : List Value), us.length = ps.length → bindArgs (PySem.W.fnOf x x (C8.fnArgs st) (C8.fnBody st) (C8.fnScope st) .none kV doc pm an cdv ct) ⟨us, []⟩ = pure (ps.zip us)) : ∃ (f : Addr) (fd : FuncData), FunC K mg x st f fd cc ∧ Binds K fd ps [] := by
  have F : C8.Fun K x x st f (PySem.W.fnOf x x (C8.fnArgs st) (C8.fnBody st) (C8.fnScope st) .none kV dc pm an (.ref cc) ct) := ⟨oc, od, .none, kV, dc, pm, an, _, ct, sl, rfl, l, c⟩
  exact ⟨f, _, ⟨⟨oc, od, .none, kV, dc, pm, an, ct, sl, rfl, l, c⟩, PySem.W.mg_of X G a, k⟩, F.binds rfl hb⟩
theorem tab_mk {x : Str} {f cc P0 : Addr} {fd : FuncData} {oc oc' : Value} {od od' : Option Addr} {sl sl' : Array (Option Value)} {vs : Array Value} (_ : K.In h) (a : PySem.W.nsIn K mainGlobals x = some (some (.ref f))) (l : K.lookup f = some ⟨oc, od, .func fd, sl⟩) (hc : fd.code = .ref cc)
    (l2 : K.lookup cc = some ⟨oc', od', .fields vs, sl'⟩) (hv : (vs[11]? : Option Value) = some (.ref P0)) : PySem.W.tabIn K x = some (cc, P0) := by
  unfold PySem.W.tabIn
  rw [a]
  dsimp only
  rw [l]
  dsimp only
  rw [hc]
  dsimp only
  rw [l2]
  dsimp only
  rw [hv]
theorem law_end26 {l : PySem.W.OpenLaw} {fa f cc P0 : Addr} {od an : Option Addr} {sl : Array (Option Value)} {oc kV dc pm cd ct : Value} (X : K.In h) (G : h.Ns mainGlobals mg) (hfa : mg "law" = some (.ref fa)) (tb : PySem.W.CodeHd h cc P0 ∧ h.get? P0 = some (PySem.W.tabObj #[])) (nP : K.lookup P0 = none)
    (a : PySem.W.nsIn K mainGlobals "law" = some (some (.ref f))) (lk : K.lookup f = some ⟨oc, od, .func (PySem.W.fnOf "law" "law" (C8.fnArgs s_law) (C8.fnBody s_law) (C8.fnScope s_law) .none kV dc pm an cd ct), sl⟩) (c : PySem.W.codeIn K cd "law" = true)
    (ok : ∀ (base : Heap) (fd : FuncData), LamX.TabB base mg cc P0 → C8.Fun K "law" "law" s_law f fd → FnOk l.prog w K mg base C8.CX0 9 f fd ["_law_script"] (sp_law K P0)) : LamX.LawAtS l w K C8.CX0 9 63 "_law_script" mg fa h := by
  have e := hfa.symm.trans (PySem.W.mg_of X G a)
  cases e
  have one : ∀ {Z : Addr × Addr → Prop}, Z (cc, P0) → ∀ p ∈ [(cc, P0)], Z p := fun z p hp => by rw [List.mem_singleton.mp hp]; exact z
  exact ⟨_, [(cc, P0)], sp_law K P0, one tb.2, one nP, one tb.1, fun s v => .of_eq rfl, fun H a ns hl _ hH hS => ⟨a, ns, rfl, hS, hl, hH _ (List.mem_singleton.mpr rfl), fun _ => rfl⟩,
    fun base _ _ hT => ok base _ (hT _ (List.mem_singleton.mpr rfl)) ⟨oc, od, .none, kV, dc, pm, an, cd, ct, sl, rfl, lk, c⟩⟩
theorem walk_tab {l : PySem.W.OpenLaw} {n k : Nat} {q : Program} {loose : List Str} {XP : (Str → Option Value) → Heap → Prop} {YP : World → Heap → Prop} {d : DefRec} {K : Params → PySem.W.Frag} {x : Str}
    (hn : l.most = some n) (hn2 : n ≤ sizeLine) (hdf : d.params.defaults = []) (hr : Room k callerA) (hY : ∀ (w : World) (h : Heap), YP w h → (K w.params).In h)
    (F : ∀ (w : World) (mg : Str → Option Value) (fa : Addr) (h : Heap), (∃ loose2 mean mb, Top q loose2 mean mg mb h) → (K w.params).In h → h.Ns mainGlobals mg → mg d.name = some (.ref fa) → LamX.LawAtS l w (K w.params) C8.CX0 k n x mg fa h) :
    PySem.W.WalkO q loose XP YP l.row.toRowW d [] (fun f vs => PySem.call f vs) := by
  refine Att.attach_callB hn hdf fun w s₀ s₁ mg mb fa o pm cd doc a vs ns G Y ho hd hcd hmg hobj hints hlen hbits hg => ?_
  have KX := hY w _ Y
  obtain ⟨fd, cs, sp, hT, nT, C, hb, hsp, hF⟩ := F w mg fa _ ⟨_, _, _, G.T⟩ KX G.T.g hmg
  exact LamX.law_callTs KX G.T.g G.T.b G.T.builtins G.T.nolimit hg hT nT C G.T.bmain hobj hints (Nat.le_trans hlen hn2) hr hF hb (fun H hH hS => hsp H a ns hlen hbits hH hS) fun _ _ _ h => h
end

end Vf

set_option maxRecDepth 100000
set_option maxHeartbeats 4000000
namespace Vf
open PySem PySem.Spec PyProof.Rows L2 SX
theorem all_ok {P : Program} {w : World} {K : PySem.W.Frag} {mg : Str → Option Value} {CB CN CW CL fI fE fT cc P0 : Addr} (T : Tx K w mg)
    (d_isText : Dn K mg "is_text" s_isText ["value"])
    (d_isPatch : Dn K mg "is_patch" s_isPatch ["value"])
    (d_isWhole : Dn K mg "is_whole" s_isWhole ["value"])
    (d_isLineWord : Dn K mg "is_line_word" s_isLineWord ["value"])
    (d_isWithin : Dn K mg "is_within" s_isWithin ["value", "bounds"])
    (d_isPlain : Dn K mg "is_plain" s_isPlain ["value"])
    (d_plainTruth : Dn K mg "plain_truth" s_plainTruth ["test", "lines", "place"])
    (d_rangeTruths : Dn K mg "range_truths" s_rangeTruths ["begins", "ends"])
    (d_plainTest : Dn K mg "plain_test" s_plainTest ["word", "argument"])
    (d_rangeTest : Dn K mg "range_test" s_rangeTest ["first", "second"])
    (d_otherTest : Dn K mg "other_test" s_otherTest ["test"])
    (d_pen : Dn K mg "_law_pen" s_pen ["_law_script"])
    (d_draw : Dn K mg "_law_draw" s_draw ["_law_pen_here", "_law_many"])
    (d_pick : Dn K mg "_law_pick" s_pick ["_law_pen_here", "_law_some"])
    (d_signs : Dn K mg "_law_signs" s_signs ["_law_pen_here"])
    (d_lawWord : Dn K mg "_law_word" s_lawWord ["_law_pen_here", "_law_signs_here", "_law_most"])
    (d_lawText : Dn K mg "_law_text" s_lawText ["_law_pen_here", "_law_signs_here", "_law_most"])
    (d_patch : Dn K mg "_law_patch" s_patch ["_law_pen_here", "_law_signs_here", "_law_most"])
    (d_lawPlainTest : Dn K mg "_law_plain_test" s_lawPlainTest ["_law_pen_here", "_law_signs_here"])
    (d_lawTest : Dn K mg "_law_test" s_lawTest ["_law_pen_here", "_law_signs_here"])
    (d_longWord : Dn K mg "_law_long_word" s_longWord ["_law_pen_here"])
    (d_longText : Dn K mg "_law_long_text" s_longText ["_law_pen_here"])
    (d_longTest : Dn K mg "_law_long_test" s_longTest ["_law_pen_here"])
    (d_testMade : Dn K mg "_law_test_made" s_testMade ["_law_check"])
    (d_lawPlainTruth : Dn K mg "_law_plain_truth" s_lawPlainTruth ["_law_check", "_law_lines", "_law_k"])
    (d_lawTruths : Dn K mg "_law_truths" s_lawTruths ["_law_check", "_law_lines"])
    (d_refused : Dn K mg "_law_refused" s_refused ["_law_action"])
    (d_isMadeRight : Dn K mg "_law_is_made_right" s_isMadeRight ["_law_check"])
    (d_byHand : Dn K mg "_law_by_hand" s_byHand [])
    (L : Lt K mg CL fI fE fT) (nI : ∃ (q : Str) (fd : FuncData), C8.Fun K "__init__" q s_LineTest_init fI fd ∧ Binds K fd ["self", "word", "argument", "parts", "negated"] []) (nE : ∃ (q : Str) (fd : FuncData), C8.Fun K "__eq__" q s_LineTest_eq fE fd ∧ Binds K fd ["self", "other"] []) (nT : ∃ (q : Str) (fd : FuncData), C8.Fun K "truths" q s_LineTest_truths fT fd ∧ Binds K fd ["self", "lines"] [])
    (kB : Kc K mg "BadWord" CB CW ["what"] i_BadWord) (kN : Kc K mg "BadNumber" CN CW ["what", "number"] i_BadNumber) (gW : mg "WorkshopError" = some (.ref CW)) (x : XF K CB CN CW) (KB : KindsOf K CL)
    (nA : ∃ (f : Addr) (fd : FuncData), FunC K mg "_law_are_refused" s_areRefused f fd cc ∧ Binds K fd ["_law_pen_here"] []) (base : Heap) (TB : LamX.TabB base mg cc P0) {f : Addr} {fd : FuncData} (F : C8.Fun K "law" "law" s_law f fd) : FnOk P w K mg base C8.CX0 9 f fd ["_law_script"] (sp_law K P0) := by
  have A0 := L.a
  obtain ⟨qI, gI, FI, bI⟩ := nI
  obtain ⟨qE, gE, FE, bE⟩ := nE
  obtain ⟨qT, gT, FT, bT⟩ := nT
  have M_LineTest := ok_init (P := P) (w := w) (base := base) A0 L.mI L.g FI bI
  have CO : Co P w K mg base CL := ⟨L.g, M_LineTest, A0.i, A0.a1, A0.a2, A0.a3, A0.a4, A0.a5⟩
  have ES : Es P w K mg base CB CN CW := { r_BadWord := rk_mk kB ini_BadWord, r_BadNumber := rk_mk kN ini_BadNumber, x := x, g_WorkshopError := gW }
  have EQ1 : Eqc P w K mg base 1 CL (EqP CL) := ⟨⟨fE, gE, ["self", "other"], L.eq, ok_eqP A0 L.g T FE, bE⟩⟩
  have EQ : Eqc P w K mg base 2 CL (EqR CL) := ⟨⟨fE, gE, ["self", "other"], L.eq, ok_eq A0 L.g T FE EQ1, bE⟩⟩
  obtain ⟨f_isText, fd_isText, F_isText, b_isText⟩ := d_isText
  have C_isText := ok_isText (P := P) (w := w) (base := base) F_isText b_isText T
  obtain ⟨f_isPatch, fd_isPatch, F_isPatch, b_isPatch⟩ := d_isPatch
  have C_isPatch := ok_isPatch (P := P) (w := w) (base := base) F_isPatch b_isPatch T C_isText
  obtain ⟨f_isWhole, fd_isWhole, F_isWhole, b_isWhole⟩ := d_isWhole
  have C_isWhole := ok_isWhole (P := P) (w := w) (base := base) F_isWhole b_isWhole T
  obtain ⟨f_isLineWord, fd_isLineWord, F_isLineWord, b_isLineWord⟩ := d_isLineWord
  have C_isLineWord := ok_isLineWord (P := P) (w := w) (base := base) F_isLineWord b_isLineWord T C_isPatch
  obtain ⟨f_isWithin, fd_isWithin, F_isWithin, b_isWithin⟩ := d_isWithin
  have C_isWithin := ok_isWithin (P := P) (w := w) (base := base) F_isWithin b_isWithin T C_isWhole
  obtain ⟨f_isPlain, fd_isPlain, F_isPlain, b_isPlain⟩ := d_isPlain
  have C_isPlain := ok_isPlain (P := P) (w := w) (base := base) F_isPlain b_isPlain T CO A0
  obtain ⟨f_plainTruth, fd_plainTruth, F_plainTruth, b_plainTruth⟩ := d_plainTruth
  have C_plainTruth := ok_plainTruth (P := P) (w := w) (base := base) F_plainTruth b_plainTruth T A0
  obtain ⟨f_rangeTruths, fd_rangeTruths, F_rangeTruths, b_rangeTruths⟩ := d_rangeTruths
  have C_rangeTruths := ok_rangeTruths (P := P) (w := w) (base := base) F_rangeTruths b_rangeTruths T
  have M_p := ok_truthsP (P := P) (w := w) (base := base) A0 L.tr FT bT T C_plainTruth
  have M_truths := ok_truths (P := P) (w := w) (base := base) A0 L.tr FT bT T C_rangeTruths M_p C_plainTruth
  obtain ⟨f_plainTest, fd_plainTest, F_plainTest, b_plainTest⟩ := d_plainTest
  have C_plainTest := ok_plainTest (P := P) (w := w) (base := base) F_plainTest b_plainTest T ES CO C_isLineWord C_isWithin
  obtain ⟨f_rangeTest, fd_rangeTest, F_rangeTest, b_rangeTest⟩ := d_rangeTest
  have C_rangeTest := ok_rangeTest (P := P) (w := w) (base := base) F_rangeTest b_rangeTest T ES CO C_isPlain
  obtain ⟨f_otherTest, fd_otherTest, F_otherTest, b_otherTest⟩ := d_otherTest
  have C_otherTest := ok_otherTest (P := P) (w := w) (base := base) F_otherTest b_otherTest T ES CO A0
  obtain ⟨f_pen, fd_pen, F_pen, b_pen⟩ := d_pen
  have C_pen := ok_pen (P := P) (w := w) (base := base) F_pen b_pen T
  obtain ⟨f_draw, fd_draw, F_draw, b_draw⟩ := d_draw
  have C_draw := ok_draw (P := P) (w := w) (base := base) F_draw b_draw T
  obtain ⟨f_pick, fd_pick, F_pick, b_pick⟩ := d_pick
  have C_pick := ok_pick (P := P) (w := w) (base := base) F_pick b_pick T C_draw
  obtain ⟨f_signs, fd_signs, F_signs, b_signs⟩ := d_signs
  have C_signs := ok_signs (P := P) (w := w) (base := base) F_signs b_signs T C_pick
  obtain ⟨f_lawWord, fd_lawWord, F_lawWord, b_lawWord⟩ := d_lawWord
  have C_lawWord := ok_lawWord (P := P) (w := w) (base := base) F_lawWord b_lawWord T C_draw C_pick
  obtain ⟨f_lawText, fd_lawText, F_lawText, b_lawText⟩ := d_lawText
  have C_lawText := ok_lawText (P := P) (w := w) (base := base) F_lawText b_lawText T C_draw C_pick
  obtain ⟨f_patch, fd_patch, F_patch, b_patch⟩ := d_patch
  have C_patch := ok_patch (P := P) (w := w) (base := base) F_patch b_patch T C_draw C_lawWord
  obtain ⟨f_lawPlainTest, fd_lawPlainTest, F_lawPlainTest, b_lawPlainTest⟩ := d_lawPlainTest
  have C_lawPlainTest := ok_lawPlainTest (P := P) (w := w) (base := base) F_lawPlainTest b_lawPlainTest T C_pick C_patch C_draw
  obtain ⟨f_lawTest, fd_lawTest, F_lawTest, b_lawTest⟩ := d_lawTest
  have C_lawTest := ok_lawTest (P := P) (w := w) (base := base) F_lawTest b_lawTest T C_lawPlainTest C_draw
  obtain ⟨f_longWord, fd_longWord, F_longWord, b_longWord⟩ := d_longWord
  have C_longWord := ok_longWord (P := P) (w := w) (base := base) F_longWord b_longWord T C_pick
  obtain ⟨f_longText, fd_longText, F_longText, b_longText⟩ := d_longText
  have C_longText := ok_longText (P := P) (w := w) (base := base) F_longText b_longText T C_draw C_longWord C_pick
  obtain ⟨f_longTest, fd_longTest, F_longTest, b_longTest⟩ := d_longTest
  have C_longTest := ok_longTest (P := P) (w := w) (base := base) F_longTest b_longTest T C_pick C_longWord C_draw
  obtain ⟨f_testMade, fd_testMade, F_testMade, b_testMade⟩ := d_testMade
  have C_testMadeP := ok_testMadeP (P := P) (w := w) (base := base) F_testMade b_testMade T C_plainTest C_otherTest
  have C_testMade := ok_testMade (P := P) (w := w) (base := base) F_testMade b_testMade T C_rangeTest C_testMadeP C_plainTest C_otherTest
  obtain ⟨f_lawPlainTruth, fd_lawPlainTruth, F_lawPlainTruth, b_lawPlainTruth⟩ := d_lawPlainTruth
  have C_lawPlainTruth := ok_lawPlainTruth (P := P) (w := w) (base := base) F_lawPlainTruth b_lawPlainTruth T
  obtain ⟨f_lawTruths, fd_lawTruths, F_lawTruths, b_lawTruths⟩ := d_lawTruths
  have C_lawTruths := ok_lawTruths (P := P) (w := w) (base := base) F_lawTruths b_lawTruths T C_lawPlainTruth
  obtain ⟨f_refused, fd_refused, F_refused, b_refused⟩ := d_refused
  have RF : Rf P w K mg base CB CN CW cc P0 := ⟨ES, ⟨f_refused, fd_refused, F_refused, b_refused⟩, TB⟩
  obtain ⟨f_isMadeRight, fd_isMadeRight, F_isMadeRight, b_isMadeRight⟩ := d_isMadeRight
  have C_isMadeRight := ok_isMadeRight (P := P) (w := w) (base := base) F_isMadeRight b_isMadeRight T A0 EQ C_testMade
  obtain ⟨f_byHand, fd_byHand, F_byHand, b_byHand⟩ := d_byHand
  have C_byHand := ok_byHand (P := P) (w := w) (base := base) (CW := CW) F_byHand b_byHand T M_truths C_rangeTest C_plainTest C_otherTest
  obtain ⟨f_a, fd_a, F_a, b_a⟩ := nA
  have C_areRefused := ok_areRefused (P := P) (w := w) (base := base) F_a b_a T RF A0 KB C_pick C_plainTest C_rangeTest C_otherTest
  exact ok_law F T EQ M_truths C_pen C_signs C_lawTest C_lawText C_testMade C_lawTruths C_isMadeRight C_longText C_longTest C_plainTest C_areRefused C_byHand
end Vf

open PySem PySem.W PyProof.Rows
set_option maxRecDepth 100000 in
set_option maxHeartbeats 0 in
theorem PySem.Challenge.cw_textworkshop_k26_line_tests_holds : PySem.Challenge.rw_textworkshop_k26_line_tests.Holds := by
  w_on; o_law; k_head; (case hw => w_witness2)
  k_fill
  refine Vf.walk_tab (l := PySem.Challenge.rw_textworkshop_k26_line_tests) (n := 63) (k := 9) (x := "_law_script") rfl (by decide) rfl ⟨rfl, by decide, by decide⟩ (fun w h Y => PySem.W.km_in_of Y) ?F
  case F =>
    intro w mg fa h TT KX G hmg
    obtain ⟨loose2, mean, mb, TT⟩ := TT
    refine' Vf.useIt (Vf.wc_mk (n := "WorkshopError") KX G ?a ?c ?k) (fun eW => ?_)
    (case a => k_is); (case c => k_is); (case k => k_is)
    refine' Vf.useIt (Vf.mt_mk KX ?n ?t) (fun eM => ?_)
    (case n => k_is); (case t => k_is)
    refine' Vf.useIt (Vf.cl_mk (n := "BadWord") KX G eW eM ?a ?l ?s ?b ?y ?k ?g ?h ?d ?e ?m) (fun c_BadWord => ?_)
    (case a => k_is); (case l => k_is); (case s => k_is); (case b => k_is); (case y => k_is); (case k => k_is); (case g => k_is); (case h => k_is); (case d => k_is); (case e => k_is); (case m => k_is)
    refine' Vf.useIt (Vf.kc_mk1 (st := Vf.i_BadWord) c_BadWord (f0 := "what") ?n0 ?i ?t ?l ?c (fun _ _ _ _ _ _ us hl => match us, hl with | [_, _], _ => rfl)) (fun k_BadWord => ?_)
    (case n0 => k_is); (case i => k_is); (case t => k_is); (case l => k_is); (case c => k_is)
    refine' Vf.useIt (Vf.cl_mk (n := "BadNumber") KX G eW eM ?a ?l ?s ?b ?y ?k ?g ?h ?d ?e ?m) (fun c_BadNumber => ?_)
    (case a => k_is); (case l => k_is); (case s => k_is); (case b => k_is); (case y => k_is); (case k => k_is); (case g => k_is); (case h => k_is); (case d => k_is); (case e => k_is); (case m => k_is)
    refine' Vf.useIt (Vf.kc_mk2 (st := Vf.i_BadNumber) c_BadNumber (f0 := "what") (f1 := "number") ?n0 ?n1 ?i ?t ?l ?c (fun _ _ _ _ _ _ us hl => match us, hl with | [_, _, _], _ => rfl)) (fun k_BadNumber => ?_)
    (case n0 => k_is); (case n1 => k_is); (case i => k_is); (case t => k_is); (case l => k_is); (case c => k_is)
    refine' Vf.useIt (Vf.lt_mk KX G eM ?a ?l ?pg ?hd ?po ?sa ?e ?m ?n1 ?n2 ?n3 ?n4 ?n5 ?mk ?i ?fi ?kp ?no ?e1 ?e2 ?e3 ?fe ?t ?ft ?kt) (fun LT => ?_)
    (case a => k_is); (case l => k_is); (case pg => k_is); (case hd => k_is); (case po => k_is); (case sa => k_is); (case e => k_is); (case m => k_is); (case n1 => k_is); (case n2 => k_is); (case n3 => k_is); (case n4 => k_is); (case n5 => k_is); (case mk => k_is); (case i => k_is); (case fi => k_is); (case kp => k_is); (case no => first | k_is | kernel_rfl | rfl); (case e1 => k_is); (case e2 => k_is); (case e3 => k_is); (case fe => k_is); (case t => k_is); (case ft => k_is); (case kt => k_is)
    refine' Vf.useIt (Vf.fnm_mk (m := "__init__") (st := Vf.s_LineTest_init) (ps := ["self", "word", "argument", "parts", "negated"]) LT.mI.init ?l ?c (fun _ _ _ _ _ _ us hl => match us, hl with | [_, _, _, _, _], _ => rfl)) (fun nI => ?_)
    (case l => k_is); (case c => k_is)
    refine' Vf.useIt (Vf.fnm_mk (m := "__eq__") (st := Vf.s_LineTest_eq) (ps := ["self", "other"]) LT.eq.hs ?l ?c (fun _ _ _ _ _ _ us hl => match us, hl with | [_, _], _ => rfl)) (fun nE => ?_)
    (case l => k_is); (case c => k_is)
    refine' Vf.useIt (Vf.fnm_mk (m := "truths") (st := Vf.s_LineTest_truths) (ps := ["self", "lines"]) LT.tr.at_ ?l ?c (fun _ _ _ _ _ _ us hl => match us, hl with | [_, _], _ => rfl)) (fun nT => ?_)
    (case l => k_is); (case c => k_is)
    refine' Vf.useIt (Vf.dn_mk (x := "is_text") (st := Vf.s_isText) (ps := ["value"]) KX G ?a ?l ?c ?k (fun _ _ _ _ _ _ us hl => match us, hl with | [_], _ => rfl)) (fun d_isText => ?_)
    (case a => k_is); (case l => k_is); (case c => k_is); (case k => k_is)
    refine' Vf.useIt (Vf.dn_mk (x := "is_patch") (st := Vf.s_isPatch) (ps := ["value"]) KX G ?a ?l ?c ?k (fun _ _ _ _ _ _ us hl => match us, hl with | [_], _ => rfl)) (fun d_isPatch => ?_)
    (case a => k_is); (case l => k_is); (case c => k_is); (case k => k_is)
    refine' Vf.useIt (Vf.dn_mk (x := "is_whole") (st := Vf.s_isWhole) (ps := ["value"]) KX G ?a ?l ?c ?k (fun _ _ _ _ _ _ us hl => match us, hl with | [_], _ => rfl)) (fun d_isWhole => ?_)
    (case a => k_is); (case l => k_is); (case c => k_is); (case k => k_is)
    refine' Vf.useIt (Vf.dn_mk (x := "is_line_word") (st := Vf.s_isLineWord) (ps := ["value"]) KX G ?a ?l ?c ?k (fun _ _ _ _ _ _ us hl => match us, hl with | [_], _ => rfl)) (fun d_isLineWord => ?_)
    (case a => k_is); (case l => k_is); (case c => k_is); (case k => k_is)
    refine' Vf.useIt (Vf.dn_mk (x := "is_within") (st := Vf.s_isWithin) (ps := ["value", "bounds"]) KX G ?a ?l ?c ?k (fun _ _ _ _ _ _ us hl => match us, hl with | [_, _], _ => rfl)) (fun d_isWithin => ?_)
    (case a => k_is); (case l => k_is); (case c => k_is); (case k => k_is)
    refine' Vf.useIt (Vf.dn_mk (x := "is_plain") (st := Vf.s_isPlain) (ps := ["value"]) KX G ?a ?l ?c ?k (fun _ _ _ _ _ _ us hl => match us, hl with | [_], _ => rfl)) (fun d_isPlain => ?_)
    (case a => k_is); (case l => k_is); (case c => k_is); (case k => k_is)
    refine' Vf.useIt (Vf.dn_mk (x := "plain_truth") (st := Vf.s_plainTruth) (ps := ["test", "lines", "place"]) KX G ?a ?l ?c ?k (fun _ _ _ _ _ _ us hl => match us, hl with | [_, _, _], _ => rfl)) (fun d_plainTruth => ?_)
    (case a => k_is); (case l => k_is); (case c => k_is); (case k => k_is)
    refine' Vf.useIt (Vf.dn_mk (x := "range_truths") (st := Vf.s_rangeTruths) (ps := ["begins", "ends"]) KX G ?a ?l ?c ?k (fun _ _ _ _ _ _ us hl => match us, hl with | [_, _], _ => rfl)) (fun d_rangeTruths => ?_)
    (case a => k_is); (case l => k_is); (case c => k_is); (case k => k_is)
    refine' Vf.useIt (Vf.dn_mkD (x := "plain_test") (st := Vf.s_plainTest) (ps := ["word", "argument"]) KX G ?a ?l ?lT ?c ?k (fun _ _ _ _ _ _ _ us its hl h1 => match us, its, hl, h1 with | [_, _], [_], _, _ => ⟨_, rfl, rfl⟩)) (fun d_plainTest => ?_)
    (case a => k_is); (case l => k_is); (case lT => k_is); (case c => k_is); (case k => k_is)
    refine' Vf.useIt (Vf.dn_mk (x := "range_test") (st := Vf.s_rangeTest) (ps := ["first", "second"]) KX G ?a ?l ?c ?k (fun _ _ _ _ _ _ us hl => match us, hl with | [_, _], _ => rfl)) (fun d_rangeTest => ?_)
    (case a => k_is); (case l => k_is); (case c => k_is); (case k => k_is)
    refine' Vf.useIt (Vf.dn_mk (x := "other_test") (st := Vf.s_otherTest) (ps := ["test"]) KX G ?a ?l ?c ?k (fun _ _ _ _ _ _ us hl => match us, hl with | [_], _ => rfl)) (fun d_otherTest => ?_)
    (case a => k_is); (case l => k_is); (case c => k_is); (case k => k_is)
    refine' Vf.useIt (Vf.dn_mk (x := "_law_pen") (st := Vf.s_pen) (ps := ["_law_script"]) KX G ?a ?l ?c ?k (fun _ _ _ _ _ _ us hl => match us, hl with | [_], _ => rfl)) (fun d_pen => ?_)
    (case a => k_is); (case l => k_is); (case c => k_is); (case k => k_is)
    refine' Vf.useIt (Vf.dn_mk (x := "_law_draw") (st := Vf.s_draw) (ps := ["_law_pen_here", "_law_many"]) KX G ?a ?l ?c ?k (fun _ _ _ _ _ _ us hl => match us, hl with | [_, _], _ => rfl)) (fun d_draw => ?_)
    (case a => k_is); (case l => k_is); (case c => k_is); (case k => k_is)
    refine' Vf.useIt (Vf.dn_mk (x := "_law_pick") (st := Vf.s_pick) (ps := ["_law_pen_here", "_law_some"]) KX G ?a ?l ?c ?k (fun _ _ _ _ _ _ us hl => match us, hl with | [_, _], _ => rfl)) (fun d_pick => ?_)
    (case a => k_is); (case l => k_is); (case c => k_is); (case k => k_is)
    refine' Vf.useIt (Vf.dn_mk (x := "_law_signs") (st := Vf.s_signs) (ps := ["_law_pen_here"]) KX G ?a ?l ?c ?k (fun _ _ _ _ _ _ us hl => match us, hl with | [_], _ => rfl)) (fun d_signs => ?_)
    (case a => k_is); (case l => k_is); (case c => k_is); (case k => k_is)
    refine' Vf.useIt (Vf.dn_mk (x := "_law_word") (st := Vf.s_lawWord) (ps := ["_law_pen_here", "_law_signs_here", "_law_most"]) KX G ?a ?l ?c ?k (fun _ _ _ _ _ _ us hl => match us, hl with | [_, _, _], _ => rfl)) (fun d_lawWord => ?_)
    (case a => k_is); (case l => k_is); (case c => k_is); (case k => k_is)
    refine' Vf.useIt (Vf.dn_mk (x := "_law_text") (st := Vf.s_lawText) (ps := ["_law_pen_here", "_law_signs_here", "_law_most"]) KX G ?a ?l ?c ?k (fun _ _ _ _ _ _ us hl => match us, hl with | [_, _, _], _ => rfl)) (fun d_lawText => ?_)
    (case a => k_is); (case l => k_is); (case c => k_is); (case k => k_is)
    refine' Vf.useIt (Vf.dn_mk (x := "_law_patch") (st := Vf.s_patch) (ps := ["_law_pen_here", "_law_signs_here", "_law_most"]) KX G ?a ?l ?c ?k (fun _ _ _ _ _ _ us hl => match us, hl with | [_, _, _], _ => rfl)) (fun d_patch => ?_)
    (case a => k_is); (case l => k_is); (case c => k_is); (case k => k_is)
    refine' Vf.useIt (Vf.dn_mk (x := "_law_plain_test") (st := Vf.s_lawPlainTest) (ps := ["_law_pen_here", "_law_signs_here"]) KX G ?a ?l ?c ?k (fun _ _ _ _ _ _ us hl => match us, hl with | [_, _], _ => rfl)) (fun d_lawPlainTest => ?_)
    (case a => k_is); (case l => k_is); (case c => k_is); (case k => k_is)
    refine' Vf.useIt (Vf.dn_mk (x := "_law_test") (st := Vf.s_lawTest) (ps := ["_law_pen_here", "_law_signs_here"]) KX G ?a ?l ?c ?k (fun _ _ _ _ _ _ us hl => match us, hl with | [_, _], _ => rfl)) (fun d_lawTest => ?_)
    (case a => k_is); (case l => k_is); (case c => k_is); (case k => k_is)
    refine' Vf.useIt (Vf.dn_mk (x := "_law_long_word") (st := Vf.s_longWord) (ps := ["_law_pen_here"]) KX G ?a ?l ?c ?k (fun _ _ _ _ _ _ us hl => match us, hl with | [_], _ => rfl)) (fun d_longWord => ?_)
    (case a => k_is); (case l => k_is); (case c => k_is); (case k => k_is)
    refine' Vf.useIt (Vf.dn_mk (x := "_law_long_text") (st := Vf.s_longText) (ps := ["_law_pen_here"]) KX G ?a ?l ?c ?k (fun _ _ _ _ _ _ us hl => match us, hl with | [_], _ => rfl)) (fun d_longText => ?_)
    (case a => k_is); (case l => k_is); (case c => k_is); (case k => k_is)
    refine' Vf.useIt (Vf.dn_mk (x := "_law_long_test") (st := Vf.s_longTest) (ps := ["_law_pen_here"]) KX G ?a ?l ?c ?k (fun _ _ _ _ _ _ us hl => match us, hl with | [_], _ => rfl)) (fun d_longTest => ?_)
    (case a => k_is); (case l => k_is); (case c => k_is); (case k => k_is)
    refine' Vf.useIt (Vf.dn_mk (x := "_law_test_made") (st := Vf.s_testMade) (ps := ["_law_check"]) KX G ?a ?l ?c ?k (fun _ _ _ _ _ _ us hl => match us, hl with | [_], _ => rfl)) (fun d_testMade => ?_)
    (case a => k_is); (case l => k_is); (case c => k_is); (case k => k_is)
    refine' Vf.useIt (Vf.dn_mk (x := "_law_plain_truth") (st := Vf.s_lawPlainTruth) (ps := ["_law_check", "_law_lines", "_law_k"]) KX G ?a ?l ?c ?k (fun _ _ _ _ _ _ us hl => match us, hl with | [_, _, _], _ => rfl)) (fun d_lawPlainTruth => ?_)
    (case a => k_is); (case l => k_is); (case c => k_is); (case k => k_is)
    refine' Vf.useIt (Vf.dn_mk (x := "_law_truths") (st := Vf.s_lawTruths) (ps := ["_law_check", "_law_lines"]) KX G ?a ?l ?c ?k (fun _ _ _ _ _ _ us hl => match us, hl with | [_, _], _ => rfl)) (fun d_lawTruths => ?_)
    (case a => k_is); (case l => k_is); (case c => k_is); (case k => k_is)
    refine' Vf.useIt (Vf.dn_mk (x := "_law_refused") (st := Vf.s_refused) (ps := ["_law_action"]) KX G ?a ?l ?c ?k (fun _ _ _ _ _ _ us hl => match us, hl with | [_], _ => rfl)) (fun d_refused => ?_)
    (case a => k_is); (case l => k_is); (case c => k_is); (case k => k_is)
    refine' Vf.useIt (Vf.dn_mk (x := "_law_is_made_right") (st := Vf.s_isMadeRight) (ps := ["_law_check"]) KX G ?a ?l ?c ?k (fun _ _ _ _ _ _ us hl => match us, hl with | [_], _ => rfl)) (fun d_isMadeRight => ?_)
    (case a => k_is); (case l => k_is); (case c => k_is); (case k => k_is)
    refine' Vf.useIt (Vf.dn_mk (x := "_law_by_hand") (st := Vf.s_byHand) (ps := []) KX G ?a ?l ?c ?k (fun _ _ _ _ _ _ us hl => match us, hl with | [], _ => rfl)) (fun d_byHand => ?_)
    (case a => k_is); (case l => k_is); (case c => k_is); (case k => k_is)
    refine' Vf.useIt (Vf.fc_mk (x := "_law_are_refused") (st := Vf.s_areRefused) (ps := ["_law_pen_here"]) KX G ?a ?l ?c ?k (fun _ _ _ _ _ _ us hl => match us, hl with | [_], _ => rfl)) (fun nA => ?_)
    (case a => k_is); (case l => k_is); (case c => k_is); (case k => k_is)
    refine' Vf.useIt (Vf.tab_mk (x := "_law_are_refused") KX ?a ?l ?fdc ?l2 ?vs11) (fun tab => ?_)
    (case a => k_is); (case l => k_is); (case fdc => rfl); (case l2 => k_is); (case vs11 => rfl)
    have tb := PySem.W.tab_of (x := "_law_are_refused") TT KX rfl tab
    refine' Vf.useIt (Vf.xf_mk c_BadWord c_BadNumber ?bb ?nb ?nn ?bn ?kb ?kn) (fun XFH => ?_)
    (case bb => kernel_rfl); (case nb => kernel_rfl); (case nn => kernel_rfl); (case bn => kernel_rfl); (case kb => kernel_rfl); (case kn => kernel_rfl)
    refine' Vf.useIt (Vf.kinds_mk LT ?a ?b) (fun KB => ?_)
    (case a => kernel_rfl); (case b => kernel_rfl)
    refine' Vf.useT (w := w) KX ⟨PySem.W.mg_none_of KX G ?z_all, PySem.W.mg_none_of KX G ?z_str, PySem.W.mg_none_of KX G ?z_isinstance, PySem.W.mg_none_of KX G ?z_len, PySem.W.mg_none_of KX G ?z_bool, PySem.W.mg_none_of KX G ?z_int, PySem.W.mg_none_of KX G ?z_range, PySem.W.mg_none_of KX G ?z_tuple, PySem.W.mg_none_of KX G ?z_zip, PySem.W.mg_none_of KX G ?z_list, PySem.W.mg_none_of KX G ?z_repr, Vf.cst_str KX G ?a_SIGNS ?e_SIGNS, Vf.cst_int KX G ?a_LONGEST_WORD, Vf.cst_tup KX G ?a_WORD_TESTS ?l_WORD_TESTS ?v_WORD_TESTS ?s_WORD_TESTS, Vf.cst_tup KX G ?a_NUMBER_TESTS ?l_NUMBER_TESTS ?v_NUMBER_TESTS ?s_NUMBER_TESTS, Vf.cst_tup KX G ?a_BARE_TESTS ?l_BARE_TESTS ?v_BARE_TESTS ?s_BARE_TESTS, Vf.cst_bounds KX G ?a_b ?l_b ?k_b ?w_b ?la_b ?lb_b⟩ (fun T => ?_)
    (case z_all => k_is)
    (case z_str => k_is)
    (case z_isinstance => k_is)
    (case z_len => k_is)
    (case z_bool => k_is)
    (case z_int => k_is)
    (case z_range => k_is)
    (case z_tuple => k_is)
    (case z_zip => k_is)
    (case z_list => k_is)
    (case z_repr => k_is)
    (case a_SIGNS => k_is)
    (case e_SIGNS => decide +kernel)
    (case a_LONGEST_WORD => k_is)
    (case a_WORD_TESTS => k_is)
    (case l_WORD_TESTS => k_is)
    (case v_WORD_TESTS => exact .cons ⟨_, rfl⟩ (.cons ⟨_, rfl⟩ (.cons ⟨_, rfl⟩ (.cons ⟨_, rfl⟩ (.nil)))))
    (case s_WORD_TESTS => decide)
    (case a_NUMBER_TESTS => k_is)
    (case l_NUMBER_TESTS => k_is)
    (case v_NUMBER_TESTS => exact .cons ⟨_, rfl⟩ (.cons ⟨_, rfl⟩ (.nil)))
    (case s_NUMBER_TESTS => decide)
    (case a_BARE_TESTS => k_is)
    (case l_BARE_TESTS => k_is)
    (case v_BARE_TESTS => exact .cons ⟨_, rfl⟩ (.cons ⟨_, rfl⟩ (.nil)))
    (case s_BARE_TESTS => decide)
    (case a_b => k_is)
    (case l_b => k_is)
    (case k_b => exact ⟨⟨_, _, rfl, rfl⟩, ⟨⟨_, _, rfl, rfl⟩, trivial⟩⟩)
    (case w_b => decide)
    (case la_b => k_is)
    (case lb_b => k_is)
    refine' Vf.law_end26 KX G hmg tb ?nP ?a ?l ?c (fun base fd TB F => Vf.all_ok T d_isText d_isPatch d_isWhole d_isLineWord d_isWithin d_isPlain d_plainTruth d_rangeTruths d_plainTest d_rangeTest d_otherTest d_pen d_draw d_pick d_signs d_lawWord d_lawText d_patch d_lawPlainTest d_lawTest d_longWord d_longText d_longTest d_testMade d_lawPlainTruth d_lawTruths d_refused d_isMadeRight d_byHand LT nI nE nT k_BadWord k_BadNumber eW.1 XFH KB nA base TB F)
    (case nP => kernel_rfl); (case a => k_is); (case l => k_is); (case c => k_is)
