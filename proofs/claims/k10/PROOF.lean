import PyProof.Rows.All
import Wide.All
import OpenK.AllK
import Wide.FinOn
import HandS.ForMost
import HandS.Codes
import HandS.Wide
import HandS.ReplaceLit
import HandS.ReplaceDef
import HandS.IsInst
import HandS.More
import HandS.StrMore
import HandS.Flow
import HandS.Zip
import HandS.ExcInit
import HandS.ExcField
import HandS.ExcIs
import HandS.ExcOwn
import HandS.ExcValue
import HandS.TryMany
import HandS.OwnEq
import HandS.FStr
import HandS.Star
import HandS.WordsExc
import PyProof.InstNe
import HandS.RaiseMore
import HandS.Lambda
import HandS.EndTab
import KE.KNest
import HandS.Comp
import KE.GoesComp
import KE.GoesRaise
import KE.KSortKey
import HandS.SortKw
import HandS.Iter
import PyProof.Draws
import HandS.Walk
import PyProof.ListStr
import KE.GoesEnumKw
import KE.KDictDisplayH
import KE.KOwnIter
import HandS.IterVal
import HandS.DictTup
import PyProof.Rows.TupDisplay
import HandS.Style
import HandS.Deep
import HandS.Strs
import HandS.TupAny
import HandS.Defaults
import PySem.Challenge.RW_textworkshop_k10_tongues_refused
set_option Elab.async false
set_option linter.all false
set_option maxRecDepth 100000
set_option maxHeartbeats 4000000
namespace Vf
open PySem PySem.Spec PyProof.Rows L2 SX

/-! ### heaps: all but dicts stays -/
def Ks (H H' : Hp) : Prop := (∀ b o, H b = some o → (∀ kvs, o ≠ .dK kvs) → H' b = some o) ∧ ∀ b, H' b = none → H b = none
def Tk (H H' : Hp) : Prop := ∀ b xs, H b = some (.tup xs) → H' b = some (.tup xs)
section
variable {K : PySem.W.Frag} {H H1 H2 H0 : Hp} {a p q : Addr} {xs : List V} {o : HO}
theorem Ks.refl (H : Hp) : Ks H H := ⟨fun _ _ h _ => h, fun _ h => h⟩
theorem Ks.trans (a : Ks H H1) (b : Ks H1 H2) : Ks H H2 := ⟨fun c o h n => b.1 c o (a.1 c o h n) n, fun c h => a.2 c (b.2 c h)⟩
theorem Ks.of (s : Same H H1) : Ks H H1 := ⟨fun b o h _ => s b o h, fun b h => s.free h⟩
theorem Ks.tk (s : Ks H H1) : Tk H H1 := fun b xs h => s.1 b _ h (fun _ e => nomatch e)
theorem Ks.lst (s : Ks H H1) (h : H a = some (.lst xs)) : H1 a = some (.lst xs) := s.1 a _ h (fun _ e => nomatch e)
theorem Ks.tup (s : Ks H H1) (h : H a = some (.tup xs)) : H1 a = some (.tup xs) := s.1 a _ h (fun _ e => nomatch e)
theorem Ks.seq (s : Ks H H1) (h : SqL K H a xs) : SqL K H1 a xs := by
  rcases h with (h | ⟨o, h⟩) | h
  · exact .inl (.inl (s.1 _ _ h (fun _ e => nomatch e)))
  · exact .inl (.inr ⟨o, s.1 _ _ h (fun _ e => nomatch e)⟩)
  · exact .inr h
theorem Ks.seqT (s : Ks H H1) (h : SqT K H a xs) : SqT K H1 a xs := by
  rcases h with (h | ⟨o, h⟩) | h
  · exact .inl (.inl (s.1 _ _ h (fun _ e => nomatch e)))
  · exact .inl (.inr ⟨o, s.1 _ _ h (fun _ e => nomatch e)⟩)
  · exact .inr h
theorem Ks.free (s : Ks H H1) (h : H1 a = none) : H a = none := s.2 a h
theorem Ks.upd (s : Ks H0 H) (h : H0 p = none) (o : HO) : Ks H0 (upd H p o) := ⟨fun b u e n => by
  rw [upd_ne (ne_of_none e h)]
  exact s.1 b u e n, fun b e => by
  by_cases z : b = p
  · rw [z]; exact h
  · rw [upd_ne z] at e
    exact s.2 b e⟩
theorem Ks.new (s : Ks H0 H) (h : H p = none) (o : HO) : Ks H0 (L2.upd H p o) := s.upd (s.free h) o
theorem Ks.new1 (h : H p = none) (o : HO) : Ks H (L2.upd H p o) := (Ks.refl H).upd h o
theorem Ks.dict {kvs kvs' : List (Key × V)} (h : H p = some (.dK kvs)) : Ks H (L2.upd H p (.dK kvs')) := ⟨fun b u e n => by
  rw [upd_ne (fun z => by rw [z, h] at e; exact n kvs (Option.some.inj e).symm)]
  exact e, fun b e => by
  by_cases z : b = p
  · rw [z, upd_same] at e; cases e
  · rw [upd_ne z] at e; exact e⟩
theorem Tk.refl (H : Hp) : Tk H H := fun _ _ h => h
theorem Tk.trans (a : Tk H H1) (b : Tk H1 H2) : Tk H H2 := fun c xs h => b c xs (a c xs h)
theorem Tk.lst {ys : List V} (s : Tk H0 H) (h : H p = some (.lst ys)) : Tk H0 (L2.upd H p o) := fun b zs e => by
  have e1 := s b zs e
  rw [upd_ne (fun z => by rw [z, h] at e1; cases e1)]
  exact e1
theorem Tk.new (s : Tk H0 H) (h : H p = none) : Tk H0 (L2.upd H p o) := fun b zs e => by
  have e1 := s b zs e
  rw [upd_ne (ne_of_none e1 h)]
  exact e1
end
theorem szB {n : Nat} (h : n ≤ 1000000) : n ≤ sizeLine := Nat.le_trans h (by decide)
theorem szL {n : Nat} (h : n ≤ 1000000) : n < sizeLine := Nat.lt_of_le_of_lt h (by decide)
theorem sz24 {n : Nat} (h : n ≤ 1000000) : n ≤ 16777216 := Nat.le_trans h (by decide)

def signsL : List Nat := [10, 32, 33, 34, 35, 36, 38, 39, 40, 41, 42, 43, 44, 45, 46, 47, 48, 49, 50, 51, 52, 53, 54, 55, 56, 57, 58, 59, 60, 61, 62, 63, 64, 65, 66, 67, 68, 69, 70, 71, 72, 73, 74, 75, 76, 77, 78, 79, 80, 81, 82, 83, 84, 85, 86, 87, 88, 89, 90, 91, 92, 93, 94, 95, 96, 97, 98, 99, 100, 101, 102, 103, 104, 105, 106, 107, 108, 109, 110, 111, 112, 113, 114, 115, 116, 117, 118, 119, 120, 121, 122, 123, 124, 125, 126]
def lowL : List Nat := [97, 98, 99, 100, 101, 102, 103, 104, 105, 106, 107, 108, 109, 110, 111, 112, 113, 114, 115, 116, 117, 118, 119, 120, 121, 122]
def figL : List Nat := [48, 49, 50, 51, 52, 53, 54, 55, 56, 57]
/-! ### the pen: a dict of five entries -/
def pk (c : Addr) (at_ d ct fo : Int) : List (Key × V) := [(.inr "cells", .ref c), (.inr "at", .int at_), (.inr "digits", .int d), (.inr "count", .int ct), (.inr "fold", .int fo)]
def PenAt (H : Hp) (p c : Addr) (m : Nat) : Prop := ∃ (ns : List Int) (at_ d ct fo : Int), H p = some (.dK (pk c at_ d ct fo)) ∧ H c = some (.lst (ns.map V.int)) ∧ ns.length ≤ 63 ∧
  0 ≤ at_ ∧ 0 ≤ d ∧ 0 ≤ ct ∧ ct ≤ (m : Int) ∧ 0 ≤ fo ∧ fo < 2147483648
section
variable {H H1 : Hp} {p c q : Addr} {m n : Nat} {o : HO}
theorem PenAt.mono (h : PenAt H p c m) (l : m ≤ n) : PenAt H p c n := by
  obtain ⟨ns, a, d, t, f, h1, h2, h3, h4, h5, h6, h7, h8, h9⟩ := h
  exact ⟨ns, a, d, t, f, h1, h2, h3, h4, h5, h6, by omega, h8, h9⟩
theorem PenAt.upd (h : PenAt H p c m) (n1 : q ≠ p) (n2 : q ≠ c) : PenAt (L2.upd H q o) p c m := by
  obtain ⟨ns, a, d, t, f, h1, h2, r⟩ := h
  exact ⟨ns, a, d, t, f, by rw [upd_ne n1.symm]; exact h1, by rw [upd_ne n2.symm]; exact h2, r⟩
theorem PenAt.ne (h : PenAt H p c m) (e : H q = none) : q ≠ p ∧ q ≠ c := by
  obtain ⟨ns, a, d, t, f, h1, h2, r⟩ := h
  exact ⟨(ne_of_none h1 e).symm, (ne_of_none h2 e).symm⟩
theorem PenAt.new (h : PenAt H p c m) (e : H q = none) : PenAt (L2.upd H q o) p c m := h.upd (h.ne e).1 (h.ne e).2
theorem PenAt.same (h : PenAt H p c m) (s : Same H H1) : PenAt H1 p c m := by
  obtain ⟨ns, a, d, t, f, h1, h2, r⟩ := h
  exact ⟨ns, a, d, t, f, s _ _ h1, s _ _ h2, r⟩
end

section
variable {H : Hp} {p c : Addr} {a d t f z : Int}
theorem pg_cells (h : H p = some (.dK (pk c a d t f))) : DGet H p (.str "cells") (some (.ref c)) := .inl ⟨_, Sum.inr "cells", .inl h, rfl, rfl⟩
theorem pg_at (h : H p = some (.dK (pk c a d t f))) : DGet H p (.str "at") (some (.int a)) := .inl ⟨_, Sum.inr "at", .inl h, rfl, rfl⟩
theorem pg_digits (h : H p = some (.dK (pk c a d t f))) : DGet H p (.str "digits") (some (.int d)) := .inl ⟨_, Sum.inr "digits", .inl h, rfl, rfl⟩
theorem pg_count (h : H p = some (.dK (pk c a d t f))) : DGet H p (.str "count") (some (.int t)) := .inl ⟨_, Sum.inr "count", .inl h, rfl, rfl⟩
theorem pg_fold (h : H p = some (.dK (pk c a d t f))) : DGet H p (.str "fold") (some (.int f)) := .inl ⟨_, Sum.inr "fold", .inl h, rfl, rfl⟩
theorem pp_at (h : H p = some (.dK (pk c a d t f))) : DPut H p (.str "at") (.int z) (upd H p (.dK (pk c z d t f))) := .inl ⟨_, Sum.inr "at", h, rfl, szL (by show 5 ≤ 1000000; decide), rfl⟩
theorem pp_digits (h : H p = some (.dK (pk c a d t f))) : DPut H p (.str "digits") (.int z) (upd H p (.dK (pk c a z t f))) := .inl ⟨_, Sum.inr "digits", h, rfl, szL (by show 5 ≤ 1000000; decide), rfl⟩
theorem pp_count (h : H p = some (.dK (pk c a d t f))) : DPut H p (.str "count") (.int z) (upd H p (.dK (pk c a d z f))) := .inl ⟨_, Sum.inr "count", h, rfl, szL (by show 5 ≤ 1000000; decide), rfl⟩
theorem pp_fold (h : H p = some (.dK (pk c a d t f))) : DPut H p (.str "fold") (.int z) (upd H p (.dK (pk c a d t z))) := .inl ⟨_, Sum.inr "fold", h, rfl, szL (by show 5 ≤ 1000000; decide), rfl⟩
end

theorem ix_tupK {X : Cx} {K : PySem.W.Frag} (hK : X.K = K) : IxR X (rIxT K) := by subst hK; exact ix_tup
theorem ix_listK {X : Cx} {K : PySem.W.Frag} (hK : X.K = K) : IxR X (rIxL K) := by subst hK; exact ix_list
theorem ix_seqK {X : Cx} {K : PySem.W.Frag} (hK : X.K = K) : IxR X (rIx K) := by subst hK; exact ix_seq
theorem op_in_seqK {X : Cx} {K : PySem.W.Frag} (hK : X.K = K) : OpR X (compareOp .In) (rIn K false) := by subst hK; exact op_in_seq
theorem pe_c0 {X : Cx} {k j : Nat} {x : Str} {sp : Sp} {dvs : List V} {p pos : Pos} (c : C8.Cal X.prog X.w X.K X.mg X.base k x sp dvs) (hr : Room j X.A) (hk : k ≤ j) (hg : Gl X x) (hdb : (x == ("__debug__" : Str)) = false := by decide) :
    PE X (.Call (.Name x p) [] [] pos) (tCall sp dvs C8.E0 tNil) := by
  obtain ⟨f, fd, ps, ds, F, hm, kp, b, d⟩ := c.ex
  exact pe_call0 F (hr.mono hk) hg hm kp b d C8.pass0 hdb

/-! ### '..' * n -/
def repL (n : Nat) (l : List Nat) : List Nat := (List.replicate n l).flatten
theorem rep_nil : ∀ n : Nat, repL n [] = []
  | 0 => rfl
  | n + 1 => rep_nil n
theorem rep_len (l : List Nat) : ∀ n : Nat, (repL n l).length = n * l.length
  | 0 => by rw [Nat.zero_mul]; rfl
  | n + 1 => by
    show (l ++ repL n l).length = _
    rw [List.length_append, rep_len l n, Nat.succ_mul, Nat.add_comm]
theorem fold_rep (l acc : List Nat) : ∀ n : Nat, ((List.replicate n l.toArray).foldl (· ++ ·) acc.toArray) = (acc ++ repL n l).toArray
  | 0 => by
    show acc.toArray = (acc ++ []).toArray
    rw [List.append_nil]
  | n + 1 => by
    rw [List.replicate_succ, List.foldl_cons]
    rw [List.append_toArray acc l, fold_rep l (acc ++ l) n]
    unfold repL
    rw [List.replicate_succ, List.flatten_cons, List.append_assoc]
theorem op_rep_str {X : Cx} : OpR X (binaryOp .Mult) (fun x y H Q => ∃ (l : List Nat) (n : Nat), x = .str (S l) ∧ y = .int (n : Int) ∧ n ≤ 1000000 ∧ l.length * n ≤ 1000000 ∧ Q (.str (S (repL n l))) H) := by
  intro pins s σ H x y v u Q I rx ry h
  obtain ⟨l, n, rfl, rfl, hn, hl, q⟩ := h
  obtain ⟨t, rfl⟩ := rx
  obtain ⟨t', rfl⟩ := ry
  have e63 : (2 : Int) ^ 63 = 9223372036854775808 := by decide
  refine PySem.P.mul_str ?_ ?_ ?_ ?_
  · rw [decide_eq_false (by omega), decide_eq_false (by omega)]; rfl
  · intro h1 h2
    rw [S_len]
    have h3 : (1 : Int) ≤ n := by omega
    have h4 : (l.length : Int) * n ≤ 1000000 := by (rw [← Int.natCast_mul]; omega)
    have h5 : (l.length : Int) ≤ (2 ^ 63 - 1) / (n : Int) := by
      rw [Int.le_ediv_iff_mul_le (by omega)]
      omega
    omega
  · intro h1 h2
    rw [S_len]
    unfold Builtin.Str.tooLong
    have e : (sizeLine : Nat) = 16777216 := by decide
    rw [e]
    exact decide_eq_false (by rw [Int.toNat_natCast]; omega)
  · have r0 : repL 0 l = [] := rfl
    have r1 : repL 1 l = l := List.append_nil l
    by_cases c0 : n = 0
    · subst c0
      rw [if_pos (by decide)]
      exact ⟨by decide, ⟨.str (S (repL 0 l)), H, I.tok _, ⟨_, rfl⟩, q⟩⟩
    · rw [if_neg (by omega)]
      by_cases c1 : ((n : Int) == 1 || (S l).length == 0) = true
      · rw [if_pos c1]
        have er : repL n l = l := by
          rw [Bool.or_eq_true] at c1
          rcases c1 with c1 | c1
          · have : n = 1 := by
              have := of_decide_eq_true c1
              omega
            rw [this, r1]
          · rw [S_len] at c1
            have : l = [] := List.eq_nil_of_length_eq_zero (eq_of_beq c1)
            subst this
            exact rep_nil n
        rw [er] at q
        exact ⟨.str (S l), H, I, ⟨_, rfl⟩, q⟩
      · rw [if_neg c1]
        have e := fold_rep l [] n
        have e' : ((List.replicate n l.toArray).foldl (· ++ ·) #[]) = (repL n l).toArray := e
        have e2 : (n : Int).toNat = n := Int.toNat_natCast n
        have e3 : (⟨(List.replicate (n : Int).toNat (S l).cps).foldl (· ++ ·) #[]⟩ : Str) = S (repL n l) := by
          rw [e2]
          exact congrArg Str.mk e'
        rw [e3]
        have e24 : (sizeLine : Nat) = 16777216 := by decide
        refine ⟨?_, ⟨.str (S (repL n l)), H, I.tok _, ⟨_, rfl⟩, q⟩⟩
        have el := rep_len l n
        rw [S_len, el, e24, Nat.mul_comm]
        omega

/-! ### D.get(key, x) of a dict of the module, keys texts -/
def KD (K : PySem.W.Frag) (w : World) (d : Addr) (f : Str → Option V) : Prop := ∃ es n, K.lookup d = some ⟨.type "dict", none, .dict es n, #[]⟩ ∧ PySem.W.KeysLit w.params es.toList ∧ (d == sysModules) = false ∧ ∀ z, RelO (f z) (findBy Value.isStrOf es z)
def tKGet (K : PySem.W.Frag) (w : World) (td ty tx : TE) : TE := fun σ H Q => td σ H fun x H1 => ∃ d f, x = .ref d ∧ KD K w d f ∧ ty σ H1 fun y H2 => tx σ H2 fun z H3 => ∃ k, y = .str k ∧ Q ((f k).getD z) H3
theorem pe_kget {X : Cx} {o e f : Expr} {apos cpos : Pos} {td ty tx : TE} {K : PySem.W.Frag} {w : World} (hK : X.K = K) (hw : X.w = w) (ho : PE X o td) (he : PE X e ty) (hf : PE X f tx) (m : M2 X o "get" apos e f cpos) : PE X (.Call (.Attribute o "get" apos) [e, f] [] cpos) (tKGet K w td ty tx) := by
  subst hK hw
  refine ⟨fun pins s σ H Q I h => ?_⟩
  refine wpAny_Call_method m.base m.few m.line PySem.F.plainAttrs_dict PySem.F.slot_dict_get PySem.F.type_dict_get (thn (ho.run pins s σ H _ I h) fun u s1 ⟨x, H1, I1, rx, d, g, ex, ⟨es, n, hl, hk, low, hg⟩, q1⟩ => ?_)
  subst ex
  obtain rfl : u = Value.ref d := rx
  have hm := PySem.W.mapOf_K (prog := X.prog) (w := X.w) I1.kIn hl hk
  refine ⟨hm.typeIs, fun b q => ?_, ?_⟩
  · cases q
    exact ⟨_, I1.kIn _ _ hl, rfl⟩
  rw [m.trees]
  refine Calls.callWith_builtin rfl (Calls.evalArgs_plain (Calls.spliced_cons (thn (he.run pins s1 σ H1 _ I1 q1) fun iv s2 ⟨y, H2, I2, ry, q2⟩ =>
    Calls.spliced_cons (thn (hf.run pins s2 σ H2 _ I2 q2) fun fv s3 ⟨z, H3, I3, rz, k, ey, q3⟩ => Calls.spliced_nil ?_))))
  subst ey
  obtain ⟨t, rfl⟩ := ry
  have hm3 := PySem.W.mapOf_K (prog := X.prog) (w := X.w) I3.kIn hl hk
  refine call_meetsIn PySem.F.slot_dict_get hm3.typeIs PySem.F.entry_dict_get (PySem.F.args_dict_get_3 _ _ _) (meets_dict_get_default (strKind X.prog X.w) d (strKind_is X.prog X.w k t) low fv) ⟨_, hm3, ⟨_, H3, I3.tok _, ?_, q3⟩⟩
  exact (hg k).getD rz
end Vf

set_option maxRecDepth 100000
set_option maxHeartbeats 4000000
namespace Vf
open PySem PySem.Spec PyProof.Rows L2 SX
/-! ### a def called at one known place of the stack (its guards are known there) -/
def noE : XK := fun _ _ _ => False
def RunAt (P : Program) (w : World) (K : PySem.W.Frag) (mg : Str → Option Value) (base : Heap) (A : Around) (f : Addr) (fd : FuncData) (ps : List Str) (sp : Sp) : Prop :=
  ∀ (out : List Env) (s : Shared) (H : Hp) (g : Args) (us : List Value) (vs : List V) (Q : VK), Env0 P w K mg base A out s H →
    BindsTo s fd g (ps.zip us) → Vals vs us → sp vs H Q noE → codeAny (model P w) A (.call (.ref f) g) (CR C8.CX0 out P w H s Q noE) s
section
variable {P : Program} {w : World} {K : PySem.W.Frag} {mg : Str → Option Value} {base : Heap}
theorem keeps_of {A : Around} {out : List Env} {s : Shared} {H : Hp} (e : Env0 P w K mg base A out s H) {b : Addr} {o : Obj} (h : base.get? b = some o) : s.heap.get? b = some o := (e.bs b o h).1
theorem runAt_of {q : Str} {st : Stmt} {f : Addr} {fd : FuncData} {N ps : List Str} {k : Nat} {A : Around} {sp : Sp} (F : C8.Fun K x q st f fd)
    (S : FnScope N ps (C8.fnScope st)) (len : ∀ vs H Q E, sp vs H Q E → vs.length = ps.length) (hr : Room (k + 1) A)
    (hb : ∀ (c : Value) (out : List Env) (s : Shared) (H : Hp) (vs : List V) (Q : VK), sp vs H Q noE →
      ∃ t, PSs (cxOf C8.CX0 P w K mg base N q (C8.fnScope st) f c A out s H noE).nox (C8.fnBody st) t ∧ t { nx := fun _ h => Q .non h, rt := Q } (start N vs) H) :
    RunAt P w K mg base A f fd ps sp := by
  obtain ⟨oc, od, dV, kV, dc, pm, an, c, ct, sl, rfl, lk, hc⟩ := F.ex
  intro out s H g us vs Q e0 hbind r hsp
  have hn := len _ _ _ _ hsp
  have KX : K.In s.heap := e0.mod.kin.keeps fun _ _ z => keeps_of e0 z
  have lim := e0.mod.nolimit.keeps (h' := s.heap) fun _ _ z => keeps_of e0 z
  refine codeAny_call_function hr.depth (KX _ _ lk) rfl S.co S.gen rfl (PySem.W.codeRec_of KX hc) (hbind _ _ _ _ ?_)
  refine wpAny_newFunctionEnv_cells S.kind (fun y hy => ?_) fun env he s1 x1 => ?_
  · rcases S.par y.1 (List.of_mem_zip hy).1 with z | z
    · exact Or.inl z
    · exact Or.inr ⟨z, PySem.W.cellsFrom_some _ _ _ (Or.inl z)⟩
  · subst he
    refine ⟨lim.keeps x1.toInCall.keep, codeAny_func ?_⟩
    obtain ⟨t, ht, hq⟩ := hb c out s H vs Q hsp
    refine wpAny_mono (ht.nox.run [] s1 (start N vs) H _ (inv_start S hr.hd e0 hn r x1) hq) (fun fl s' hs => ?_) (fun _ _ hs => hs)
    rcases fl with u | _ | _ | _
    all_goals first
      | exact (by obtain ⟨v, σ', H', J, rv, z⟩ := hs; exact ⟨v, H', J.os, J.bare, J.base, J.hok, rv, z⟩)
      | exact (by obtain ⟨σ', H', J, z⟩ := hs; exact ⟨V.non, H', J.os, J.bare, J.base, J.hok, rfl, z⟩)
      | exact (by obtain ⟨_, _, _, z⟩ := hs; exact z.elim)
end
/-- a tracked script list, or one of the written part -/
def scrH (a : Addr) (o : Obj) (xs : List V) : Hp := fun b => if b = a then some (.frz o (.lst xs)) else none
section
variable {P : Program} {w : World} {K : PySem.W.Frag} {mg mb : Str → Option Value} {fa a : Addr} {fd : FuncData} {x : Str} {sp : Sp} {s : Shared} {ws : List Value} {ns : List Int}
def LawEnd (s : Shared) (r : Result) (z : Shared) : Prop := r = .ok (.ret (.bool true)) ∧ OldK s.heap z.heap ∧ z.os = s.os ∧ AllBare z.gens
theorem law_core (KX : K.In s.heap) (hn : s.heap.Ns mainGlobals mg) (hb : s.heap.Ns builtinsNs mb) (hbb : ∀ y : Str, y ≠ "__name__" → mb y = bootBuiltins y) (hl : s.heap.NoLimit) (hg : s.gens = #[])
    (ha : s.heap.get? a = some { cls := .type "list", data := .seq ws.toArray }) (F : ∀ b : Heap, K.In b → b.Ns mainGlobals mg → RunAt P w K mg b callerA fa fd [x] sp)
    (bind : ∀ (z : Shared) (u : Value), BindsTo z fd ⟨[u], []⟩ [(x, u)]) (H : Hp) (hO : Only H) (hS : sp [.ref a] H (fun v _ => v = .bl true) noE) (ok : HOk P w H s.heap)
    (hA : ∀ b, H b ≠ none → b = a) (hK : H a ≠ none → K.lookup a = none) : codeAny (model P w) callerA (.call (.ref fa) ⟨[.ref a], []⟩) (LawEnd s) s := by
  have at_a : ∀ {b : Addr} {u : HO}, H b = some u → b = a := fun {b u} z => hA b fun n => nomatch n.symm.trans z
  have dictN : ∀ {b : Addr} {o : Obj} {es : Array DictEntry} {ep : Nat}, s.heap.get? b = some o → o.data = .dict es ep → H b = none := fun {b o es ep} e d =>
    match q : H b with
    | none => rfl
    | some u => by
      cases at_a q
      cases ha.symm.trans e
      exact nomatch d
  have nsN : ∀ {b : Addr} {m : Str → Option Value}, s.heap.Ns b m → (hidT s.heap H).Ns b m := fun {b m} n => by
    obtain ⟨o, es, ep, e, d, r⟩ := n
    exact ⟨o, es, ep, hidT_get e (dictN e d), d, r⟩
  have kin : K.In (hidT s.heap H) := fun b o e => hidT_get (KX b o e) (match q : H b with
    | none => rfl
    | some u => by
      cases at_a q
      cases (hK fun n => nomatch n.symm.trans q).symm.trans e)
  have lim : (hidT s.heap H).NoLimit := by
    obtain ⟨mc, l1, l2⟩ := hl
    exact ⟨mc, nsN l1, l2⟩
  have e0 : Env0 P w K mg (hidT s.heap H) callerA [] s H := ⟨rfl, ⟨kin, nsN hn, ⟨mb, nsN hb, hbb⟩, lim⟩, fun _ _ e => of_hidT e, Nat.le_of_eq (hidT_size _ _), trivial, fun b z => absurd (show b ∈ ([] : List Addr) from z) List.not_mem_nil, ok, .of_eq hg⟩
  refine codeAny_mono (F _ kin (nsN hn) [] s H ⟨[.ref a], []⟩ [.ref a] [.ref a] _ e0 (bind s (.ref a)) (.cons rfl .nil) hS) fun r z h => ?_
  match r, h with
  | .error e, h => exact (show False from h).elim
  | .ok .next, h => exact (show False from h).elim
  | .ok .brk, h => exact (show False from h).elim
  | .ok .cont, h => exact (show False from h).elim
  | .ok (.ret u), h =>
    obtain ⟨v, H', os, bare, un, ok', rv, rfl⟩ := h
    cases (show u = Value.bool true from rv)
    refine ⟨rfl, OldK.of_keep fun b o e => ?_, os, bare⟩
    match q : H b with
    | none => exact un.keep b o e q (fun m => absurd (show b ∈ ([] : List Addr) from m) List.not_mem_nil) List.not_mem_nil
    | some u =>
      rcases hO b with n | ⟨ob, xs, n⟩
      · exact nomatch n.symm.trans q
      · have g1 := (ok b _ n).1
        have g2 := (ok' b _ (un.frzs b ob _ n)).1
        cases e.symm.trans g1
        exact g2
theorem law_callG (KX : K.In s.heap) (hn : s.heap.Ns mainGlobals mg) (hb : s.heap.Ns builtinsNs mb) (hbb : ∀ y : Str, y ≠ "__name__" → mb y = bootBuiltins y) (hl : s.heap.NoLimit) (hg : s.gens = #[])
    (ha : s.heap.get? a = some { cls := .type "list", data := .seq ws.toArray }) (hi : IntsAre ws ns) (hz : ns.length ≤ sizeLine) (F : ∀ b : Heap, K.In b → b.Ns mainGlobals mg → RunAt P w K mg b callerA fa fd [x] sp)
    (bind : ∀ (z : Shared) (u : Value), BindsTo z fd ⟨[u], []⟩ [(x, u)]) (hS : ∀ H : Hp, Only H → SqL K H a (ns.map V.int) → sp [.ref a] H (fun v _ => v = .bl true) noE) :
    codeAny (model P w) callerA (.call (.ref fa) ⟨[.ref a], []⟩) (LawEnd s) s := by
  have rv := vals_ints hi
  match hk : K.lookup a with
  | some o =>
    cases ha.symm.trans (KX a o hk)
    have so : Only (fun _ => none) := fun _ => .inl rfl
    exact law_core KX hn hb hbb hl hg ha F bind _ so (hS _ so (.inr ⟨_, ws.toArray, _, hk, rfl, rfl, rfl, by rw [List.size_toArray, hi.length]; exact hz, by simpa using rv⟩)) (fun _ u z => nomatch (show (none : Option HO) = some u from z)) (fun _ z => absurd rfl z) (fun z => absurd rfl z)
  | none =>
    have e1 : scrH a { cls := .type "list", data := .seq ws.toArray } (ns.map V.int) a = some (.frz { cls := .type "list", data := .seq ws.toArray } (.lst (ns.map V.int))) := if_pos rfl
    have e2 : ∀ {b : Addr}, b ≠ a → scrH a { cls := .type "list", data := .seq ws.toArray } (ns.map V.int) b = none := fun n => if_neg n
    have so : Only (scrH a { cls := .type "list", data := .seq ws.toArray } (ns.map V.int)) := fun b => by
      by_cases z : b = a
      · subst z; exact .inr ⟨_, _, e1⟩
      · exact .inl (e2 z)
    refine law_core KX hn hb hbb hl hg ha F bind _ so (hS _ so (.inl (.inr ⟨_, e1⟩))) (fun b u z => ?_) (fun b z => ?_) fun _ => hk
    · by_cases y : b = a
      · subst y
        cases e1.symm.trans z
        exact ⟨ha, by rw [List.length_map]; exact hz, ws, _, rv, ha⟩
      · exact nomatch (e2 y).symm.trans z
    · by_cases y : b = a
      · exact y
      · exact absurd (e2 y) z
end
section
variable {l : PySem.W.OpenLaw} {n : Nat} {q : Program} {loose : List Str} {XP : (Str → Option Value) → Heap → Prop} {YP : World → Heap → Prop} {d : DefRec} {K : Params → PySem.W.Frag} {sp : PySem.W.Frag → Sp} {x : Str}
theorem walk_ofG (hn : l.most = some n) (hz : n ≤ sizeLine) (hd : d.params.defaults = []) (hY : ∀ (w : World) (h : Heap), YP w h → (K w.params).In h)
    (F : ∀ (w : World) (mg : Str → Option Value) (fa : Addr) (h : Heap), (K w.params).In h → h.Ns mainGlobals mg → mg d.name = some (.ref fa) →
      ∃ fd : FuncData, (∀ (z : Shared) (u : Value), BindsTo z fd ⟨[u], []⟩ [(x, u)]) ∧ ∀ b : Heap, (K w.params).In b → b.Ns mainGlobals mg → RunAt l.prog w (K w.params) mg b callerA fa fd [x] (sp (K w.params)))
    (hS : ∀ (K : PySem.W.Frag) (H : Hp) (a : Addr) (ns : List Int), ns.length ≤ n → Only H → SqL K H a (ns.map V.int) → sp K [.ref a] H (fun v _ => v = .bl true) noE) :
    PySem.W.WalkO q loose XP YP l.row.toRowW d [] (fun f vs => PySem.call f vs) := by
  refine Att.attach_call hn hd fun w s0 s1 mg mb fa o pm c dc a vs ns G Y ho ht hc hm hobj hi hlen hg => ?_
  have KX := hY w _ Y
  obtain ⟨fd, hb, hF⟩ := F w mg fa _ KX G.T.g hm
  exact law_callG KX G.T.g G.T.b G.T.builtins G.T.nolimit hg hobj hi (Nat.le_trans hlen hz) hF hb fun H hO hL => hS _ H a ns hlen hO hL
end
/-! ### repr of data -/
def rRepr (K : PySem.W.Frag) : List V → Hp → VK → Prop := fun xs H Q => ∃ (a : Addr) (d : PyData), xs = [.ref a] ∧ Dp K H (.ref a) d ∧ d.showable = true ∧ d.hasDict = false ∧ d.depth ≤ 40 ∧ d.shown.length ≤ sizeLine ∧ Q (.str d.shown) H
theorem call_reprD {X : Cx} (hg : X.A.guards = some []) (hu : X.A.units + 64 < cLine) : CallR X (.builtin "repr") (rRepr X.K) := by
  intro pins s σ H xs us Q I r h
  obtain ⟨a, d, rfl, hd, hs, hn, hp, hl, q⟩ := h
  cases r with
  | @cons _ u _ _ ra rt =>
    cases rt
    obtain rfl : u = Value.ref a := ra
    obtain ⟨as, rd⟩ := Dp.reads I d _ _ hd rfl
    exact repr_of_reads' rd hs (fun z => absurd (hn.symm.trans z) (by decide)) hg (by omega) (fun _ _ e => e) (fun h' u tk k => ⟨.str d.shown, H, I.kept k, ⟨_, rfl⟩, q⟩) hl
end Vf

set_option maxRecDepth 100000
set_option maxHeartbeats 4000000
namespace Vf
open PySem PySem.Spec PyProof.Rows L2 SX
/-! ### an own exception as a value: made, its fields read, its class asked -/
/-- __class__ of an own exception, with or without a dict of its own -/
theorem cls_of_exc {prog : Program} {w : World} {A : Around} {E : Value → Shared → Prop} {s : Shared} {K : PySem.W.Frag} {e C : Addr} {oe : Obj} {od : Option Obj} {Q : Option Value → Shared → Prop} (T : ExcC K C)
    (X : K.In s.heap) (I : PySem.W.InstAt s.heap e oe C od) (q : Q (some (.ref C)) { s with toks := s.toks + 1 }) : wpAny (model prog w) A (getAttr? (.ref e) "__class__") Q E s := by
  have fnd : PySem.W.findObj K C od "__class__" = some (.bind (.builtin "getset_descriptor.__get__") (.builtin "object.__class__")) := by
    obtain ⟨cd, hc, _⟩ := PySem.W.any_some T.hd
    unfold PySem.W.findObj
    simp [hc, T.ha, T.hn, T.ht]
  have own : (Value.builtin "BaseException.__getattribute__" == Value.builtin "object.__getattribute__") = false := by decide +kernel
  obtain ⟨h0, g0, d0, t0, o0⟩ := s
  have j0 := I.type (M := model prog w)
  have j1 := PySem.W.looks_findIn (M := model prog w) X T.hg
  have j2 := PySem.W.looks_findIn (M := model prog w) X T.hk
  have j3 := PySem.W.looks_find (M := model prog w) X I fnd
  have sb : PySem.W.Looks (model prog w) h0 (isInstance (.ref e) (.type "BaseException")) true := j0.andThen (PySem.W.looks_subIn X T.hs)
  unfold getAttr? getAttrBy? getAttrBy
  iterate 1 refine wpAny_bind (wpAny_mkText ?_)
  refine wpAny_bind (wpAny_attempt (wpAny_holding ?_))
  refine wpAny_bind (j0.at (wpAny_bind (j1.at ?_)))
  refine (show wpAny _ _ (if (onTheHeap (Value.ref C) && (Value.builtin "BaseException.__getattribute__" == Value.builtin "object.__getattribute__")) = true then _ else _) _ _ _ from ?_)
  rw [own, Bool.and_false, if_neg Bool.false_ne_true]
  unfold getAttrByItsOwn hookBefore
  refine wpAny_bind ?_
  have hon : onTheHeap (Value.ref C) = true := rfl
  rw [if_pos hon]
  refine j2.at (wpAny_bind (wpAny_attempt (wpAny_holding ?_)))
  unfold callGetattribute
  have hno : ¬ (false && onTheHeap (Value.builtin "BaseException.__getattribute__")) = true := Bool.false_ne_true
  rw [if_neg hno]
  unfold boundAndCalled
  rw [F.excAttr_ValueError.ga.bind (.ref e)]
  refine wpAny_bind (wpAny_pure ?_)
  refine (show wpAny _ _ (call (.builtin "BaseException.__getattribute__") [.ref e, .str "__class__" t0]) _ _ _ from ?_)
  refine (wpAny_call (codeAny_call_builtin F.excAttr_ValueError.ga.plain F.entry_bexc_ga ?_))
  refine @PySem.W.check_slot (model prog w) _ _ ⟨h0, g0, d0, t0 + 1, o0⟩ "BaseException.__getattribute__" "BaseException" "__getattribute__"
    (.ref e) [.str "__class__" t0] [] _ (by decide +kernel) (by decide +kernel) sb (F.args_bexc_ga (.ref e) (.str "__class__" t0)) ?_
  unfold Builtin.«object.__getattribute__»
  refine wpAny_bind (wpAny_of_eq (a := ((Value.ref e : Value), [Value.str "__class__" t0])) (by first | rfl | (simp only [slotArgs]; rfl)) ?_)
  refine wpAny_bind (wpAny_pure (wpAny_bind (j0.at (wpAny_bind (j3.at ?_)))))
  refine (show wpAny _ _ (holding [Value.builtin "object.__class__"] (call (.builtin "getset_descriptor.__get__") [.builtin "object.__class__", .ref e, .ref C]) >>= ret) _ _ _ from ?_)
  refine wpAny_bind (wpAny_holding (wpAny_call (PySem.W.class_get (s := ⟨h0, g0, d0, t0 + 1, o0⟩) X I T.hm ?_)))
  refine wpAny_pure ?_
  refine (show wpAny _ _ (handedOut (.ref C)) _ _ _ from ?_)
  rw [PySem.W.handedOut_of (v := .ref C) rfl]
  first
    | exact wpAny_pure (wpAny_pure q)
    | exact wpAny_pure q
theorem kitx_exo {K : PySem.W.Frag} {e C : Addr} {oe : Obj} {od : Option Obj} (T : ExcC K C) : PySem.W.KitX K (.ref e) (.ref C) (fun h => PySem.W.InstAt h e oe C od) := by
  have Z : PySem.W.KitX K (.ref e) (.ref C) (fun h => PySem.W.InstAt h e oe C none) := PySem.W.handS_kitx_exc T.hg T.hk T.hs T.hd T.ha T.hn T.ht T.hm
  obtain ⟨cd, hc, _⟩ := PySem.W.any_some T.hd
  exact { ty := fun _ _ _ I => I.type
          it := fun M h X I A Q E s k q => by
            unfold PySem.W.clsIn at hc
            split at hc
            · rename_i c1 d1 cd1 sl1 ho
              unfold isType loadHead
              exact wpAny_bind (wpAny_loadPart (k _ _ (X _ _ ho)) (wpAny_pure q))
            · cases hc
          ne := fun h tp dd its n sl X htp => Bool.eq_false_iff.mpr fun z => by
            have ez : C = tp := Value.ref.inj (beq_iff_eq.mp z)
            subst ez
            unfold PySem.W.clsIn at hc
            split at hc
            · rename_i c1 d1 cd1 sl1 ho
              exact nomatch (X _ _ ho).symm.trans htp
            · cases hc
          ca := fun X I k => cls_of_exc T X I k }
/-- an own exception of the class at C, with these fields, at a (n: none as yet) -/
def ExAt (H : Hp) (a C : Addr) (fs : List (Str × V)) : Prop := (fs = [] ∧ H a = some (exo a C none)) ∨ ∃ d, H a = some (exo a C (some d)) ∧ H d = some (exd d fs)
theorem inst_of {P : Program} {w : World} {H : Hp} {h : Heap} {a C : Addr} {fs : List (Str × V)} (ok : HOk P w H h) (e : ExAt H a C fs) : ∃ (oe : Obj) (od : Option Obj), PySem.W.InstAt h a oe C od := by
  rcases e with ⟨_, e⟩ | ⟨d, e1, e2⟩
  · obtain ⟨t, g⟩ := exo_at ok e
    exact ⟨_, none, ⟨g, rfl, rfl, trivial⟩⟩
  · obtain ⟨t, g⟩ := exo_at ok e1
    obtain ⟨mA, ⟨o, es, ep, g2, _⟩, _⟩ := exd_at ok e2
    exact ⟨_, some o, ⟨g, rfl, rfl, g2⟩⟩
def rIsX (K : PySem.W.Frag) : List V → Hp → VK → Prop := fun xs H Q => ∃ (a C : Addr) (fs : List (Str × V)) (c : V) (u : Value) (b : Bool), xs = [.ref a, c] ∧ ExAt H a C fs ∧ ExcC K C ∧ ClsV c u ∧ PySem.W.kitOne K (.ref C) u = some b ∧ Q (.bl b) H
theorem call_isX {X : Cx} : CallR X (.builtin "isinstance") (rIsX X.K) := by
  intro pins s σ H xs us Q I r h
  obtain ⟨a, C, fs, c, u, b, rfl, ex, T, k, e, q⟩ := h
  obtain ⟨u1, u2, rfl, r1, r2⟩ := vals2 r
  cases k.eq r2
  obtain rfl : u1 = Value.ref a := r1
  obtain ⟨oe, od, J⟩ := inst_of I.hok ex
  exact PySem.W.kia_one (kitx_exo T) I.kIn J e (fun z => nomatch z) fun tk => ⟨.bl b, H, I.tok tk, rfl, q⟩
/-- e.f of such an exception -/
def tXa (K : PySem.W.Frag) (f : Str) (te : TE) : TE := fun σ H Q => te σ H fun x H1 => ∃ (a C : Addr) (fs : List (Str × V)) (v : V), x = .ref a ∧ XfC K C ∧ PySem.W.findIn K (.ref C) f = some none ∧ ExAt H1 a C fs ∧ fs.lookup f = some v ∧ Q v H1
theorem pe_xa {X : Cx} {e : Expr} {te : TE} {pos : Pos} {f : Str} (he : PE X e te) (hb : attributeBase e f X.env (eval e X.env) = eval e X.env := by rfl) : PE X (.Attribute e f pos) (tXa X.K f te) := by
  refine ⟨fun pins s σ H Q I h => attr_of hb (thn (he.run pins s σ H _ I h) fun u s1 ⟨x, H1, I1, rx, a, C, fs, v, ex, T, hno, ea, l, q⟩ => ?_)⟩
  subst ex
  obtain rfl : u = Value.ref a := rx
  rcases ea with ⟨z, _⟩ | ⟨d, e1, e2⟩
  · subst z; cases l
  obtain ⟨t, g⟩ := exo_at I1.hok e1
  obtain ⟨mA, hns, hr⟩ := exd_at I1.hok e2
  obtain ⟨od, ho, hl⟩ := lookIn_ns hns
  obtain ⟨y, hy, ry⟩ := RelO.some_of (v := v) (o := mA f) (by rw [← l]; exact hr f)
  exact HandSPX.exc_get I1.kIn ⟨g, rfl, rfl, ho⟩ T.ga T.gg T.exC (PySem.W.findObj_own T.hdC hno rfl (by rw [hl, hy])) (handed_of ry) ⟨v, H1, I1.tok _, ry, q⟩
/-- C(e, ..), C's own __init__ keeping sp: the new exception stays -/
def tMkx (R : List V → Hp → VK → Prop) (ta : TA) : TE := fun σ H Q => ta σ H fun vs H1 => R vs H1 Q
theorem pe_mkx {X : Cx} {R : List V → Hp → VK → Prop} {x : Str} {C fI : Addr} {k : Nat} {fd : FuncData} {ps : List Str} {sp : Sp} {e : Expr} {es : List Expr} {ta : TA} {p pos : Pos} (T : OexC X.K C) (iC : PySem.W.findIn X.K (.ref C) "__init__" = some (some (.ref fI)))
    (tI : PySem.W.typeIn X.K (.ref fI) = some (.type "function")) (F1 : FnOk X.prog X.w X.K X.mg X.base C8.CX0 k fI fd ps sp) (hr : Room (k + 1) X.A) (hb : Binds X.K fd ps []) (hg : Gl X x) (hm : X.mg x = some (.ref C)) (ha : PA X (e :: es) ta)
    (hR : ∀ vs H1 Q, R vs H1 Q → vs.length ≤ 1000 ∧ ∀ a, H1 a = none → sp (.ref a :: vs) (upd H1 a (exo a C none)) (fun v H2 => v = .non ∧ Q (.ref a) H2) noE)
    (hdb : (x == ("__debug__" : Str)) = false := by decide) (he : starEach (e :: es) X.env = (false, eval e X.env) :: starEach es X.env := by rfl) (hpl : (backTo pos (starEach es X.env)).any (·.1) = false := by rfl) :
    PE X (.Call (.Name x p) (e :: es) [] pos) (tMkx R ta) := by
  refine ⟨fun pins s σ H Q I h => ?_⟩
  obtain ⟨nm, q, N, bs, bm, sn, sub, ab, col, dd, k0, k1, k2, k3, k5, hC, hbm⟩ := T.cls
  refine wpAny_Call_Name_kw (ld_glob I hg hm ?_ hdb)
  refine PySem.W.callWith_K (h₀ := X.base) I.ok.mod.kin T.kC (thn (ha.run pos pins s σ H _ I h) fun us s1 ⟨vs, H1, I1, r1, q0⟩ => ⟨I1.kIn, ?_⟩) he hpl
  obtain ⟨hz, q1⟩ := hR _ _ _ q0
  refine (show wpAny _ _ (call (.ref C) us) _ _ _ from ?_)
  obtain ⟨hp, g, dr, tk, os⟩ := s1
  have top : hp.objs.size ≤ hp.objs.size + 1 := Nat.le_succ _
  have hn : H1 (hp.objs.size + 1) = none := I1.hok.fresh top
  have grow : ∀ b o, hp.get? b = some o → ((hp.push (PySem.W.kdv_tup us)).push (PySem.HandSPX.excO C hp.objs.size)).get? b = some o := fun b o z => Heap.get?_push_of_some _ (Heap.get?_push_of_some _ z)
  have I2 := I1.laid (t' := tk) (a := hp.objs.size + 1) (o := exo (hp.objs.size + 1) C none) (h' := (hp.push (PySem.W.kdv_tup us)).push (PySem.HandSPX.excO C hp.objs.size)) grow top (exo_ok (t1 := hp.objs.size) (by heap_get))
  have r2 : Vals (V.ref (hp.objs.size + 1) :: vs) (Value.ref (hp.objs.size + 1) :: us) := .cons rfl r1
  have hq := q1 (hp.objs.size + 1) hn
  have hl : (Value.ref (hp.objs.size + 1) :: us).length = ps.length := r2.length.symm.trans (F1.len _ _ _ _ hq)
  have hus : us.length ≤ sizeLine := Nat.le_trans (Nat.le_of_eq (Paired.length r1).symm) (Nat.le_trans hz (by rw [sizeLine_eq]; decide))
  have bd := hb ⟨(hp.push (PySem.W.kdv_tup us)).push (PySem.HandSPX.excO C hp.objs.size), g, dr, tk, os⟩ (Value.ref (hp.objs.size + 1) :: us) I2.kIn (by rw [List.append_nil]; exact hl)
  rw [List.append_nil] at bd
  refine wpAny_call (PySem.HandSPX.call_own F.excBase_ValueError (fun Y => PySem.HandSPX.refsVE_contains Y bm hbm) (I1.kIn _ _ hC) (PySem.W.looks_findIn I1.kIn iC) (fun self => PySem.W.bind_fn I1.kIn self tI) hus ?_)
  refine codeAny_mono (F1.run _ X.stack _ _ ⟨Value.ref (hp.objs.size + 1) :: us, []⟩ (Value.ref (hp.objs.size + 1) :: us) _ _ noE (hr.make C us []) (I2.env0.make C us []) bd r2 hq) fun r s' z => ?_
  match r, z with
  | .error _, z => exact (show False from z).elim
  | .ok .next, z => exact (show False from z).elim
  | .ok .brk, z => exact (show False from z).elim
  | .ok .cont, z => exact (show False from z).elim
  | .ok (.ret u), z =>
    obtain ⟨v, H2, I3, rv, ev, q2⟩ := I2.after z
    subst ev
    exact ⟨rv, .ref (hp.objs.size + 1), H2, I3, rfl, q2⟩
/-- C(), a class without own __init__ -/
theorem pe_mkx0 {X : Cx} {C : Addr} {x : Str} {p pos : Pos} (T : OexC X.K C) (q : PySem.W.excIn X.K C [.type "ValueError", .type "Exception", .type "BaseException", .type "object"] "ValueError.__new__" = true) (gC : X.mg x = some (.ref C)) (hg : Gl X x)
    (hdb : (x == ("__debug__" : Str)) = false := by decide) : PE X (.Call (.Name x p) [] [] pos) (fun σ H Q => ∀ a, H a = none → Q (.ref a) (upd H a (exo a C none))) := by
  refine ⟨fun pins s σ H Q I h => ?_⟩
  refine wpAny_Call_Name_kw (ld_glob I hg gC ?_ hdb)
  refine PySem.W.callWith_K0 I.kIn T.kC ?_
  obtain ⟨bm, N, nm, qn, bs, hdct, sn, sub, ab, col, dd, k0, k1, k2, k3, k5, mN, hC, hN, hni, OT⟩ := exc_obj I.kIn q
  refine wpAny_call_exc_subT F.excBase_ValueError OT hC hN hni (fun h' a hm => ?_) (Nat.zero_le _)
  have hn : H a = none := I.hok.gone hm.new
  obtain ⟨t, ht, _, _⟩ := hm.there
  exact ⟨.ref a, upd H a (exo a C none), I.laidN hm.keeps hm.new hn (exo_ok ht), rfl, h a hn⟩
end Vf

set_option maxRecDepth 100000
set_option maxHeartbeats 4000000
namespace Vf
open PySem PySem.Spec PyProof.Rows L2 SX
/-! ### defs that may raise -/
structure CalX (P : Program) (w : World) (K : PySem.W.Frag) (mg : Str → Option Value) (base : Heap) (k : Nat) (x : Str) (sp : Sp) : Prop where
  ex : ∃ (f : Addr) (fd : FuncData) (ps : List Str), FnOk P w K mg base (L2.CX P w) k f fd ps sp ∧ mg x = some (.ref f) ∧ PySem.W.keepIn K (.ref f) = true ∧ Binds K fd ps []
structure MetX (P : Program) (w : World) (K : PySem.W.Frag) (mg : Str → Option Value) (base : Heap) (k : Nat) (C : Addr) (m : Str) (sp : Sp) : Prop where
  ex : ∃ (f : Addr) (fd : FuncData) (ps : List Str), Cls K C ∧ Meth K C m f ∧ FnOk P w K mg base (L2.CX P w) k f fd ps sp ∧ Binds K fd ps []
section
variable {P : Program} {w : World} {K : PySem.W.Frag} {mg : Str → Option Value} {base : Heap}
theorem fnX {x q : Str} {st : Stmt} {f : Addr} {fd : FuncData} {N ps : List Str} {k : Nat} {sp : Sp} (F : C8.Fun K x q st f fd) (S : FnScope N ps (C8.fnScope st)) (len : ∀ vs H Q E, sp vs H Q E → vs.length = ps.length)
    (hb : ∀ (c : Value) (A : Around) (outer : List Env) (s : Shared) (H : Hp) (vs : List V) (Q : VK) (E : XK), Room k (A.deeper (envOfC q (C8.fnScope st) s.heap.objs.size f c)) → sp vs H Q E →
      ∃ t, PSs (cxOf (L2.CX P w) P w K mg base N q (C8.fnScope st) f c A outer s H E) (C8.fnBody st) t ∧ t { nx := fun _ h => Q .non h, rt := Q } (start N vs) H) : FnOk P w K mg base (L2.CX P w) (k + 1) f fd ps sp := by
  obtain ⟨oc, od, dV, kV, dc, pm, an, c, ct, sl, rfl, lk, hc⟩ := F.ex
  exact fn_of lk hc S len fun A outer s H vs Q E hr h => hb c A outer s H vs Q E hr h
theorem calX {x : Str} {st : Stmt} {f : Addr} {fd : FuncData} {N ps : List Str} {k : Nat} {sp : Sp} (F : C8.Def K mg x st f fd) (b : Binds K fd ps []) (S : FnScope N ps (C8.fnScope st)) (len : ∀ vs H Q E, sp vs H Q E → vs.length = ps.length)
    (hb : ∀ (c : Value) (A : Around) (outer : List Env) (s : Shared) (H : Hp) (vs : List V) (Q : VK) (E : XK), Room k (A.deeper (envOfC x (C8.fnScope st) s.heap.objs.size f c)) → sp vs H Q E →
      ∃ t, PSs (cxOf (L2.CX P w) P w K mg base N x (C8.fnScope st) f c A outer s H E) (C8.fnBody st) t ∧ t { nx := fun _ h => Q .non h, rt := Q } (start N vs) H) : CalX P w K mg base (k + 1) x sp :=
  ⟨f, fd, ps, fnX F.fn S len hb, F.mgf, F.kp, b⟩
theorem metX {m q : Str} {C : Addr} {st : Stmt} {f : Addr} {fd : FuncData} {N ps : List Str} {k : Nat} {sp : Sp} (c : Cls K C) (me : Meth K C m f) (F : C8.Fun K m q st f fd) (b : Binds K fd ps []) (S : FnScope N ps (C8.fnScope st)) (len : ∀ vs H Q E, sp vs H Q E → vs.length = ps.length)
    (hb : ∀ (c : Value) (A : Around) (outer : List Env) (s : Shared) (H : Hp) (vs : List V) (Q : VK) (E : XK), Room k (A.deeper (envOfC q (C8.fnScope st) s.heap.objs.size f c)) → sp vs H Q E →
      ∃ t, PSs (cxOf (L2.CX P w) P w K mg base N q (C8.fnScope st) f c A outer s H E) (C8.fnBody st) t ∧ t { nx := fun _ h => Q .non h, rt := Q } (start N vs) H) : MetX P w K mg base (k + 1) C m sp :=
  ⟨f, fd, ps, c, me, fnX F S len hb, b⟩
end
section
variable {X : Cx} {k j : Nat} {x m : Str} {C : Addr} {sp : Sp} {p pos apos : Pos} {e o : Expr} {es : List Expr} {t : TA} {ta : TE} {W : WX}
/-- such a def called where what it raises is wished for -/
theorem pe_cx (c : CalX X.prog X.w X.K X.mg X.base k x sp) (hr : Room j X.A) (hk : k ≤ j) (hg : Gl X x) (tk : Takes X W) (ha : PA X (e :: es) t)
    (hdb : (x == ("__debug__" : Str)) = false := by decide) (he : starEach (e :: es) X.env = (false, eval e X.env) :: starEach es X.env := by rfl) (hpl : (backTo pos (starEach es X.env)).any (·.1) = false := by rfl) :
    PE X (.Call (.Name x p) (e :: es) [] pos) (tCallS sp (WE W) t) := by
  obtain ⟨f, fd, ps, F, hm, kp, b⟩ := c.ex
  exact pe_callS F (hr.mono hk) hg hm kp b (fun σ => passAt tk σ) ha hdb he hpl
/-- .. called where it raises nothing -/
theorem pe_cx0 (c : CalX X.prog X.w X.K X.mg X.base k x sp) (hr : Room j X.A) (hk : k ≤ j) (hg : Gl X x) (ha : PA X (e :: es) t)
    (hdb : (x == ("__debug__" : Str)) = false := by decide) (he : starEach (e :: es) X.env = (false, eval e X.env) :: starEach es X.env := by rfl) (hpl : (backTo pos (starEach es X.env)).any (·.1) = false := by rfl) :
    PE X (.Call (.Name x p) (e :: es) [] pos) (tCall sp [] E0 t) := by
  obtain ⟨f, fd, ps, F, hm, kp, b⟩ := c.ex
  exact pe_call F (hr.mono hk) hg hm kp b .nil passL ha hdb he hpl
def tMx (C : Addr) (m : Str) (sp : Sp) (E : L2.St → XK) (ta : TE) (t : TA) : TE := fun σ H Q => ta σ H fun v H1 => ∃ a dx fs, v = .ref a ∧ H1 a = some (.ins C dx fs) ∧ fs.lookup m = none ∧ t σ H1 fun vs H2 => sp (v :: vs) H2 Q (E σ)
/-- o.m(e, ..) that may raise -/
theorem pe_mx {pl : Sem Bool} (c : MetX X.prog X.w X.K X.mg X.base k C m sp) (hr : Room j X.A) (hk : k ≤ j) (tk : Takes X W) (he : PE X o ta) (ha : PA X (e :: es) t)
    (hst : starEach (e :: es) X.env = (false, eval e X.env) :: starEach es X.env := by rfl) (hpl : (backTo pos (starEach es X.env)).any (·.1) = false := by rfl)
    (ht : eval (.Call (.Attribute o m apos) (e :: es) [] pos) X.env = (do
      let ov ← eval o X.env
      standAt apos.atName
      let (f, first) ← holding [ov] (getMethod ov m pl)
      callWith pos f first (backTo pos (starEach (e :: es) X.env)) (backToKw pos (keywordEach [] X.env))) := by rfl) :
    PE X (.Call (.Attribute o m apos) (e :: es) [] pos) (tMx C m sp (WE W) ta t) := by
  obtain ⟨f, fd, ps, hc, hm, F, b⟩ := c.ex
  refine ⟨fun pins s σ H Q I h => ?_⟩
  refine PySem.W.methodCall_KW (pl := pl) (thn (he.run pins s σ H _ I h) fun u s1 ⟨v, H1, I1, rx, a, dx, fs, ex, ea, l, q⟩ => ?_) ht
  subst ex
  obtain rfl : u = Value.ref a := rx
  refine getmeth_ok I1 ea hc hm l ?_
  refine PySem.W.callWith_K (first := [.ref a]) (h₀ := X.base) I.ok.mod.kin hm.kp (thn (ha.run pos pins s1 σ H1 _ I1 q) fun us s2 ⟨vs, H2, I2, r, q2⟩ => ⟨I2.kIn, ?_⟩) hst hpl
  exact run_fnS (us := .ref a :: us) (vs := .ref a :: vs) F (hr.mono hk) b (passAt tk σ) I2 (.cons rfl r) q2
/-- o.m() that may raise -/
theorem pe_mx0 {pl : Sem Bool} (c : MetX X.prog X.w X.K X.mg X.base k C m sp) (hr : Room j X.A) (hk : k ≤ j) (tk : Takes X W) (he : PE X o ta)
    (ht : eval (.Call (.Attribute o m apos) [] [] pos) X.env = (do
      let ov ← eval o X.env
      standAt apos.atName
      let (f, first) ← holding [ov] (getMethod ov m pl)
      callWith pos f first (backTo pos (starEach [] X.env)) (backToKw pos (keywordEach [] X.env))) := by rfl) :
    PE X (.Call (.Attribute o m apos) [] [] pos) (tMx C m sp (WE W) ta tNil) := by
  obtain ⟨f, fd, ps, hc, hm, F, b⟩ := c.ex
  refine ⟨fun pins s σ H Q I h => ?_⟩
  refine PySem.W.methodCall_KW (pl := pl) (thn (he.run pins s σ H _ I h) fun u s1 ⟨v, H1, I1, rx, a, dx, fs, ex, ea, l, q⟩ => ?_) ht
  subst ex
  obtain rfl : u = Value.ref a := rx
  refine getmeth_ok I1 ea hc hm l ?_
  exact PySem.W.callWith_K0 (first := [.ref a]) I1.kIn hm.kp (run_fnS (us := [.ref a]) (vs := [.ref a]) F (hr.mono hk) b (passAt tk σ) I1 (.cons rfl .nil) q)
end
/-! ### own exceptions raised -/
/-- __init__ of such: its arguments under these names, in a new dict -/
def sp_inx (C : Addr) (fs : List Str) : Sp := fun xs H Q _ => ∃ (a : Addr) (ys : List V), xs = .ref a :: ys ∧ ys.length = fs.length ∧ H a = some (exo a C none) ∧
  ∀ (d : Addr) (H2 : Hp), H d = none → d ≠ a → H2 a = some (exo a C (some d)) → H2 d = some (exd d (fs.zip ys).reverse) → (∀ b o, b ≠ a → H b = some o → H2 b = some o) → (∀ b, H2 b = none → H b = none) → Q .non H2
def tImp (ta : TA) : TA := fun σ H Q => ∃ Q0 : List V → Hp → Prop, ta σ H Q0 ∧ ∀ vs H1, Q0 vs H1 → Q vs H1
theorem pa_imp {X : Cx} {es : List Expr} {ta : TA} (ha : PA X es ta) : PA X es (tImp ta) := ⟨fun pos pins s σ H Q I ⟨Q0, h, i⟩ => thn (ha.run pos pins s σ H Q0 I h) fun us s1 ⟨vs, H1, I1, r, q⟩ => ⟨vs, H1, I1, r, i vs H1 q⟩⟩
structure Rc (K : PySem.W.Frag) (mg : Str → Option Value) (n : Str) (C : Addr) : Prop where
  g : mg n = some (.ref C)
  o : OexC K C
  x : XfC K C
structure Rk (P : Program) (w : World) (K : PySem.W.Frag) (mg : Str → Option Value) (base : Heap) (n : Str) (C : Addr) (fs : List Str) : Prop where
  rc : Rc K mg n C
  no : ∀ f ∈ fs, PySem.W.findIn K (.ref C) f = some none
  ini : ∃ (fI : Addr) (fd : FuncData) (ps : List Str), PySem.W.findIn K (.ref C) "__init__" = some (some (.ref fI)) ∧ PySem.W.typeIn K (.ref fI) = some (.type "function") ∧ FnOk P w K mg base C8.CX0 1 fI fd ps (sp_inx C fs) ∧ Binds K fd ps []
def tRx (C : Addr) (fs : List Str) (W : WX) (ta : TA) : TS := fun _ σ H => ta σ H fun vs H1 => vs.length = fs.length ∧ ∀ (d : Addr) (H2 : Hp), H1 d = none → H2 d = some (.xd (fs.zip vs).reverse) → Same H1 H2 → W (.ref C) (some d) σ H2
theorem ps_rx {X : Cx} {n : Str} {C : Addr} {fs : List Str} {j : Nat} {e : Expr} {es : List Expr} {ta : TA} {W : WX} {p pos pos2 : Pos} (E : Rk X.prog X.w X.K X.mg X.base n C fs) (hr : Room j X.A) (hj : 2 ≤ j) (hg : Gl X n) (hc : X.calm = true) (tk : Takes X W) (ha : PA X (e :: es) ta) (hf : fs.length < 100 := by decide)
    (hdb : (n == ("__debug__" : Str)) = false := by decide) (he : starEach (e :: es) X.env = (false, eval e X.env) :: starEach es X.env := by rfl) (hpl : (backTo pos (starEach es X.env)).any (·.1) = false := by rfl) :
    PS X (.Raise (some (.Call (.Name n p) (e :: es) [] pos)) none pos2) (tRx C fs W ta) := by
  obtain ⟨fI, fd, ps, i1, i2, F, b⟩ := E.ini
  refine ⟨fun pins s σ H D I h => (ps_raise hc tk (pmk_oex E.rc.o i1 i2 F (hr.mono hj) b .nil pass0 hg E.rc.g (pa_imp ha) hdb he hpl)).run pins s σ H D I ?_⟩
  refine ⟨_, h, fun vs H1 q => ?_⟩
  obtain ⟨hl, q⟩ := q
  refine ⟨by omega, fun a hn => ⟨a, vs ++ [], rfl, by rw [List.append_nil]; exact hl, upd_same, fun d H2 hd nd e1 e2 keep fr => ?_⟩⟩
  rw [List.append_nil] at e2
  rw [upd_ne nd] at hd
  refine ⟨rfl, d, (fs.zip vs).reverse, e1, e2, hd, q d _ hd upd_same fun b o z => ?_⟩
  have nb : b ≠ a := ne_of_none z hn
  rw [upd_ne (ne_of_none z hd), del_ne nb]
  exact keep b o nb (by rw [upd_ne nb]; exact z)
/-! ### try with several clauses that name the error alike -/
def wManyA (K : PySem.W.Frag) (i : Nat) (Wout : WX) (D : Ends) : List (Value × (Addr → Value → Option Addr → TS)) → WX
  | [] => Wout
  | (c, ts) :: r => fun cls d σ H => ∃ b, PySem.W.exmOne K cls c = some b ∧
      (b = true → ∀ a, H a = none → ts a cls d { nx := fun σ' H' => D.nx (σ'.set i none) H', rt := D.rt, bk := fun σ' H' => D.bk (σ'.set i none) H', ct := fun σ' H' => D.ct (σ'.set i none) H' } (σ.set i (some (.ref a))) H) ∧ (b = false → wManyA K i Wout D r cls d σ H)
inductive HdsA (X : Cx) (n : Str) : List ExceptHandler → List (Value × (Addr → Value → Option Addr → TS)) → Prop
  | nil : HdsA X n [] []
  | cons {x : Str} {c : Value} {ts : Addr → Value → Option Addr → TS} {b₀ : Stmt} {suite : List Stmt} {np pos' : Pos} {hds : List ExceptHandler} {l : List (Value × (Addr → Value → Option Addr → TS))} (hc : Names X x c)
      (hsu : ∀ (a : Addr) (oe : Obj) (cls : Value) (d : Option Addr) (pn : List (Addr × Obj)), Zc cls d oe → (∃ vs, oe.data = .fields vs) → PSs (X.suite a ((a, oe) :: pn)) (b₀ :: suite) (ts a cls d)) (r : HdsA X n hds l) :
      HdsA X n (.ExceptHandler (some (.Name x np)) (some n) (b₀ :: suite) pos' :: hds) ((c, ts) :: l)
theorem ps_try_ma {X : Cx} {n : Str} {i : Nat} {body : List Stmt} {h₀ : ExceptHandler} {hds : List ExceptHandler} {l : List (Value × (Addr → Value → Option Addr → TS))} {pos : Pos} {tb : WX → TS} {Wout : WX}
    (hs : X.stack = X.env :: X.outer) (hf : X.env.frame = some X.env.locals) (hN : X.N.Nodup) (hi : X.N[i]? = some n) (hln : X.env.kindOf n = some .local) (tk : Takes X Wout)
    (hb : ∀ (W : WX) (pn : List (Addr × Obj)) (xe : Value → Shared → Prop), Takes (X.tr pn xe) W → PassesOwn (model X.prog X.w) X.A X.env xe → PSs (X.tr pn xe) body (tb W))
    (hh : HdsA X n (h₀ :: hds) l) : PS X (.Try body (h₀ :: hds) [] [] pos) (fun D σ H => tb (wManyA X.K i Wout D l) D σ H) := by
  refine ⟨fun pins s σ H D I h => ?_⟩
  have ok := I.ok
  have hfr : X.A.frames = some (X.env :: X.outer) := by rw [ok.frames, hs]
  have hloc : Loc X.env.scope n := .inl hln
  refine wpAny_Try_except ?_
  refine wpAny_mono ((hb (wManyA X.K i Wout D l) (X.pn ++ pins) (fun e s₁ => wpAny (model X.prog X.w) X.A (noteFrame e X.env) (fun _ s₂ => wpAny (model X.prog X.w) X.A (setFlight e none) (fun _ s₃ =>
    wpAny (model X.prog X.w) X.A (handleBy e X.env (h₀ :: hds)) (SP X pins D) X.xe s₃) X.xe s₂) X.xe s₁) (fun u s' xx => ?_) PassesOwn.looking).run [] s σ H D (I.toTry _) h) (fun f s1 hsp => ?_) (fun e s1 he => he)
  · obtain ⟨a, B, sI, pins', σ', H', cls, d, rfl, J', nb, up, sky, na, os, ag, w⟩ := xx
    have J : Inv X pins σ' H' sI := J'.ofTry ok
    have sky' : Sky B (X.env :: X.outer) a (Zc cls d) X.env.locals s'.heap := by rw [← hs]; exact sky
    show wpAny (model X.prog X.w) X.A (noteFrame (.ref a) X.env) _ _ _
    refine Sky.land Zc.steady hfr hf sky' fun h3 fl3 up3 => ?_
    have J3 : Inv X pins σ' H' { s' with heap := h3 } := J.landed nb fl3.1 (up.trans up3) os ag
    obtain ⟨oe3, vs3, he3, hz3, hd3⟩ := fl3.there
    have notFr : ∀ {h : Heap} {o : Obj} {vs : Array Value}, h.FunFrames B (X.env :: X.outer) → h.get? a = some o → o.data = .fields vs → a ∉ frs (X.env :: X.outer) := fun {h o vs} ff e dd hm => by
      obtain ⟨_, o', e', hnf⟩ := ff.mem hm
      rw [e] at e'; cases e'
      exact hnf _ dd
    have nfr := notFr fl3.2.2.1 he3 hd3
    have nL : a ≠ X.env.locals := fun z => nfr (List.mem_filterMap.mpr ⟨X.env, List.mem_cons_self, by rw [hf, z]⟩)
    have nF : a ∉ X.fs := fun hm => by
      obtain ⟨e, he, q⟩ := List.mem_filterMap.mp hm
      exact nfr (List.mem_filterMap.mpr ⟨e, List.mem_cons_of_mem _ he, q⟩)
    have S3 := J3.suite he3 hd3 na nL nF
    have go : ∀ {hds' : List ExceptHandler} {l' : List (Value × (Addr → Value → Option Addr → TS))}, HdsA X n hds' l' → wManyA X.K i Wout D l' cls d σ' H' →
        wpAny (model X.prog X.w) X.A (handleBy (.ref a) X.env hds') (SP X pins D) X.xe { s' with heap := h3 } := by
      intro hds' l' hk
      induction hk with
      | nil =>
        intro w
        refine wpAny_handleBy_nil ?_
        obtain ⟨k1, k2, k3, oe, vs, T, oT, ts', he, hz, hd, h1, hr⟩ := id fl3
        unfold PySem.passOn
        refine wpAny_bind (wpAny_field he hd h1 ?_)
        rw [if_neg (show ¬ ((Value.ref T == Value.none) = true) from by simp)]
        have fin : wpAny (model X.prog X.w) X.A (setFlight (.ref a) X.env.frame) (fun _ s4 => wpAny (model X.prog X.w) X.A (throw (.ref a) : Sem Flow) (SP X pins D) X.xe s4) X.xe { s' with heap := h3 } := by
          rw [hf]
          refine HandSPX.setFlight_upZ fl3 fun h4 hh4 up4 => wpAny_throw (tk _ _ ?_)
          exact ⟨a, B, sI, pins, σ', H', cls, d, rfl, J, nb, (up.trans up3).trans up4, .inr (.inr (by rw [hs]; exact hh4)), na, os, ag, w⟩
        first
          | exact wpAny_bind (wpAny_pure (wpAny_bind fin))
          | exact wpAny_bind fin
      | @cons x c ts b₀ suite np pos' hds2 l2 hc hsu r ih =>
        intro w
        obtain ⟨b, hb1, hyes, hno⟩ := w
        refine wpAny_handleBy_cons (codeAny_handlers_test ?_) (by intro q; cases q)
        have LT : PySem.W.Looks (model X.prog X.w) h3 (typeOf (.ref a)) cls := fun A Q E s k q => wpAny_typeOf_ref (k _ _ he3) (by rw [hz3.1]; exact q)
        have LM := PySem.W.exm_one (M := model X.prog X.w) (J3.kIn) LT hb1
        have test : ∀ {Q : Value → Shared → Prop} {E : Value → Shared → Prop}, Q c { s' with heap := h3 } → wpAny (model X.prog X.w) (X.A.mark (some (.ref a))) (eval (.Name x np) X.env) Q E { s' with heap := h3 } := fun {Q E} q => by
          obtain ⟨hg, hdbg, hm | ⟨hm, hv, hnn⟩⟩ := hc
          · exact ld_glob (X := X.suite a ((a, oe3) :: (X.pn ++ pins))) S3 hg hm q hdbg
          · exact ld_blt (X := X.suite a ((a, oe3) :: (X.pn ++ pins))) S3 hg hm hv q hnn hdbg
        refine test (LM.here ?_)
        cases b with
        | true =>
          refine codeAny_handlers_suite_as ?_
          refine HandSPX.lands_againZ fl3 fun h4 fl4 up4 => ?_
          have J4 : Inv X pins σ' H' { s' with heap := h4 } := J.landed nb fl4.1 ((up.trans up3).trans up4) os ag
          obtain ⟨oe4, vs4, he4, hz4, hd4⟩ := fl4.there
          have S4 := J4.suite he4 hd4 na nL nF
          refine store_ok (X := X.suite a ((a, oe4) :: (X.pn ++ pins))) (v := .ref a) S4 hN hi hloc rfl (fun s5 S5 => ?_) (.inr hln)
          refine wpAny_mono ((hsu a oe4 cls d (X.pn ++ pins) hz4 ⟨_, hd4⟩).run [] s5 _ H' _ S5 (hyes rfl a na)) (fun f s6 hsp => ?_) (fun _ _ z => False.elim z)
          have end_ : ∀ {σ6 : L2.St} {H6 : Hp} {Q : Shared → Prop}, Inv (X.suite a ((a, oe4) :: (X.pn ++ pins))) [] σ6 H6 s6 → (∀ s7, Inv X pins (σ6.set i none) H6 s7 → Q s7) →
              wpAny (model X.prog X.w) X.A (do bindName X.env n .none; unbindBehindTheSuite X.env n pos') (fun _ s7 => Q s7) X.xe s6 := fun {σ6 H6 Q} S6 hq => gone_ok (S6.unsuite ok) hN hi hln hq
          cases f with
          | next =>
            obtain ⟨σ6, H6, S6, q6⟩ := hsp
            exact end_ S6 fun s7 J7 => ⟨_, _, J7, q6⟩
          | brk =>
            obtain ⟨σ6, H6, S6, q6⟩ := hsp
            exact end_ S6 fun s7 J7 => ⟨_, _, J7, q6⟩
          | cont =>
            obtain ⟨σ6, H6, S6, q6⟩ := hsp
            exact end_ S6 fun s7 J7 => ⟨_, _, J7, q6⟩
          | ret u =>
            obtain ⟨v6, σ6, H6, S6, r6, q6⟩ := hsp
            exact end_ S6 fun s7 J7 => ⟨_, _, _, J7, r6, q6⟩
        | false =>
          show wpAny _ X.A (handleBy (.ref a) X.env hds2) _ _ _
          exact ih (hno rfl)
    exact go hh w
  · cases f with
    | next =>
      obtain ⟨σ', H', J', q⟩ := hsp
      exact wpAny_execs_nil ⟨σ', H', J'.ofTry ok, q⟩
    | brk =>
      obtain ⟨σ', H', J', q⟩ := hsp
      exact ⟨σ', H', J'.ofTry ok, q⟩
    | cont =>
      obtain ⟨σ', H', J', q⟩ := hsp
      exact ⟨σ', H', J'.ofTry ok, q⟩
    | ret u =>
      obtain ⟨v, σ', H', J', r, q⟩ := hsp
      exact ⟨v, σ', H', J'.ofTry ok, r, q⟩
end Vf

set_option maxRecDepth 100000
set_option maxHeartbeats 4000000
namespace Vf
open PySem PySem.Spec PyProof.Rows L2 SX
/-! ### == and != by an own __eq__, either answer -/
structure OwnC (K : PySem.W.Frag) (C f : Addr) : Prop where
  cls : ∃ (nm q : Str) (N : Addr) (bs : List Value) (hdct : Bool) (sn : List Str) (sub : List Value) (ab : Bool) (col : Option Bool) (dd : Option Addr) (k0 k1 k2 k3 k5 : Option Value) (newId : String),
    K.lookup C = some (excClassObj nm q C N bs [.type "object"] hdct sn sub ab col dd k0 k1 k2 k3 k5 newId) ∧ PySem.W.nsOkIn K N = true ∧ PySem.W.nsIn K N "__eq__" = some (some (.ref f)) ∧ PySem.W.nsIn K N "__ne__" = some none
  hs : PySem.W.findIn K (.ref C) "__eq__" = some (some (.ref f))
  hf : PySem.W.isFn K (.ref f) = true
def spEqI (R : Addr → Addr → Bool → Hp → Prop) : Sp := fun vs H Q _ => ∃ a b r, vs = [.ref a, .ref b] ∧ R a b r H ∧ ∀ H', Same H H' → Q (.bl r) H'
def rEqI (C : Addr) (n : Bool) (R : Addr → Addr → Bool → Hp → Prop) : R2 := fun x y H Q => ∃ a b r dx dy fs gs, x = .ref a ∧ y = .ref b ∧ H a = some (.ins C dx fs) ∧ H b = some (.ins C dy gs) ∧ R a b r H ∧ ∀ H', Same H H' → Q (.bl (r != n)) H'
theorem ns_some {K : PySem.W.Frag} {h : Heap} {N : Addr} {m : Str → Option Value} {n : Str} {v : Value} (X : K.In h) (G : h.Ns N m) (e : PySem.W.nsIn K N n = some (some v)) : m n = some v := by
  obtain ⟨o, es, ep, ho, hd, _, hf⟩ := G
  unfold PySem.W.nsIn at e
  split at e
  · rename_i c d es' n' sl q
    have := X _ _ q
    rw [ho] at this
    cases this
    cases hd
    split at e
    · rename_i en he
      cases e
      rw [← hf]
      unfold nsFind findBy
      rw [← Array.find?_toList, he]
      rfl
    · split at e <;> cases e
  · cases e
section
variable {X : Cx} {C f : Addr} {fd : FuncData} {ps : List Str} {R : Addr → Addr → Bool → Hp → Prop} {k j : Nat}
theorem op_eqI (O : OwnC X.K C f) (F : FnOk X.prog X.w X.K X.mg X.base C8.CX0 k f fd ps (spEqI R)) (hb : Binds X.K fd ps []) (hr : Room j X.A) (hj : k ≤ j) : OpR X (compareOp .Eq) (rEqI C false R) := by
  intro pins s σ H x y v u Q I rx ry hq
  obtain ⟨a, b, r, dx, dy, fs, gs, rfl, rfl, ha, hb', hr', q⟩ := hq
  cases rx
  cases ry
  show wpAny (model X.prog X.w) X.A (richCompare .Eq (.ref a) (.ref b)) (EP X pins σ Q) X.xe s
  obtain ⟨mA, J, _⟩ := ins_get I.hok ha
  obtain ⟨mB, J', _⟩ := ins_get I.hok hb'
  obtain ⟨od, J, _⟩ := J.look
  obtain ⟨od', J', _⟩ := J'.look
  obtain ⟨m, hF⟩ := I.fr
  refine PySem.W.cmp_K (op := .Eq) (tb := .ref C) hr.units0 hF I.ok.mod.kin J J'.type (by simp [PySem.W.notFirst]) O.hs O.hf ?_
  refine thn (run_fn (us := [.ref a, .ref b]) (vs := [.ref a, .ref b]) (Q := fun v H' => v = .bl r ∧ Same H H') F (hr.mono hj) hb .nil pass0 I (.cons rfl (.cons rfl .nil)) ⟨a, b, r, rfl, hr', fun H' e => ⟨rfl, e⟩⟩) fun z s1 hz => ?_
  obtain ⟨v, H', I1, rv, e, sm⟩ := hz
  subst e
  obtain rfl : z = Value.bool r := rv
  refine ⟨.bl (r != false), H', I1, ?_, q H' sm⟩
  show Value.bool r = Value.bool (r != false)
  cases r <;> rfl
theorem op_neI (O : OwnC X.K C f) (F : FnOk X.prog X.w X.K X.mg X.base C8.CX0 k f fd ps (spEqI R)) (hb : Binds X.K fd ps []) (hr : Room j X.A) (hj : k + 1 ≤ j) : OpR X (compareOp .NotEq) (rEqI C true R) := by
  intro pins s σ H x y v u Q I rx ry hq
  obtain ⟨a, b, r, dx, dy, fs, gs, rfl, rfl, ha, hb', hr', q⟩ := hq
  cases rx
  cases ry
  obtain ⟨mA, J, _⟩ := ins_get I.hok ha
  obtain ⟨mB, J', _⟩ := ins_get I.hok hb'
  obtain ⟨nm, qn, N, bs, hdct, sn, sub, ab, col, dd, k0, k1, k2, k3, k5, newId, lC, nk, ne, nn⟩ := O.cls
  have KX := I.kIn
  have G : s.heap.Ns N (s.heap.nsMap N) := .of_isNs (PySem.W.isNs_of_in KX nk)
  have tf : PySem.W.typeIn X.K (.ref f) = some (.type "function") := beq_iff_eq.mp O.hf
  obtain ⟨of, lf, hcf⟩ := Option.map_eq_some_iff.mp (show (X.K.lookup f).map (·.cls) = some (.type "function") from tf)
  have W : s.heap.OwnEqNoNe a C f "object" [.type "object"] :=
    ⟨_, of, nm, qn, N, bs, hdct, sn, sub, ab, col, dd, k0, k1, k2, k3, k5, newId, _, _, J.obj, rfl, KX _ _ lC, G, ns_some KX G ne, KX _ _ lf, hcf, PySem.F.cmp_object.mro, PySem.F.cmp_object.eq.lookup, PySem.W.ns_none_of KX G nn⟩
  have e0 : Env0 X.prog X.w X.K X.mg X.base X.A.in1 X.stack s H := by
    have e := I.env0
    exact ⟨e.frames, e.mod, e.bs, e.bsz, e.funs, e.frf, e.hok, e.bare⟩
  have hsp : spEqI R [.ref a, .ref b] H (fun v H' => v = .bl r ∧ Same H H') (fun _ _ _ => False) := ⟨a, b, r, rfl, hr', fun H' e => ⟨rfl, e⟩⟩
  have hl := F.len _ _ _ _ hsp
  have hu : X.A.units + 1 < cLine := (hr.mono hj).in1.units0
  have run := F.run X.A.in1 X.stack s H ⟨[.ref a, .ref b], []⟩ [.ref a, .ref b] [.ref a, .ref b] _ (fun _ _ _ => False) ((hr.mono hj).in1) e0 (by
    have := hb s [.ref a, .ref b] KX (by simpa using hl)
    simpa using this) (.cons rfl (.cons rfl .nil)) hsp
  obtain ⟨hp, g, d, t, os⟩ := s
  refine compareOp_ne_ownEq (prog := X.prog) (w := X.w) PySem.F.cmp_object W J'.obj rfl hu (wpAny_call (codeAny_mono run fun z s' hz => ?_))
  cases z with
  | error e => exact pass0 pins σ H _ e s' I hz
  | ok fl =>
    cases fl with
    | ret w =>
      obtain ⟨v, H', I1, rv, ev, sm⟩ := I.after hz
      subst ev
      obtain rfl : w = Value.bool r := rv
      refine ⟨r, rfl, .bl (r != true), H', I1, ?_, q H' sm⟩
      show Value.bool (!r) = Value.bool (r != true)
      cases r <;> rfl
    | next => exact False.elim hz
    | brk => exact False.elim hz
    | cont => exact False.elim hz
/-- one of two rules for an operator -/
theorem op_alt {g : Value → Value → Sem Value} {r1 r2 : R2} (h1 : OpR X g r1) (h2 : OpR X g r2) : OpR X g (fun x y H Q => r1 x y H Q ∨ r2 x y H Q) := by
  intro pins s σ H x y v u Q I rx ry h
  rcases h with h | h
  · exact h1 pins s σ H x y v u Q I rx ry h
  · exact h2 pins s σ H x y v u Q I rx ry h
end
end Vf

set_option maxRecDepth 100000
set_option maxHeartbeats 4000000
namespace Vf
open PySem PySem.Spec PyProof.Rows L2 SX
/-! ### match over texts -/
structure MC (X : Cx) (cs : List MatchCase) (t : V → TS) : Prop where
  run : ∀ (first : Bool) (pins : List (Addr × Obj)) (s : Shared) (σ : L2.St) (H : Hp) (D : Ends) (x : V) (v : Value), Inv X pins σ H s → RelV x v → t x D σ H → wpAny (model X.prog X.w) X.A (matchCases cs X.env v first) (SP X pins D) X.xe s
section
variable {X : Cx}
theorem mc_nil : MC X [] (fun _ => tNext) := ⟨fun _ pins s σ H D x v I _ h => by
  rw [arm_matchCases_nil]
  exact wpAny_pure ⟨σ, H, I, h⟩⟩
def tMv (s : Str) (tb : TS) (tr : V → TS) : V → TS := fun x D σ H => ∃ y : Str, x = .str y ∧ if decide (y = s) = true then tb D σ H else tr x D σ H
theorem mc_val {s : Str} {j : Nat} {p1 p2 : Pos} {body : List Stmt} {rest : List MatchCase} {tb : TS} {tr : V → TS} (hb : PSs X body tb) (hr : MC X rest tr) :
    MC X (⟨.MatchValue (.Constant (.str s) j p1) p2, none, body⟩ :: rest) (tMv s tb tr) := by
  refine ⟨fun first pins sh σ H D x v I rx h => ?_⟩
  obtain ⟨y, rfl, h⟩ := h
  rw [arm_matchCases_cons]
  refine wpAny_bind (wpAny_holding ?_)
  rw [arm_matchPattern_MatchValue]
  refine wpAny_bind (thn (pe_str.run pins sh σ H (fun z H1 => z = .str s ∧ H1 = H) I ⟨rfl, rfl⟩) fun u s1 ⟨z, H1, I1, rz, e1, e2⟩ => ?_)
  subst e1
  subst e2
  refine wpAny_bind (wpAny_standAt ?_)
  refine wpAny_bind (thn (op_eq pins s1 σ H1 (.str y) (.str s) v u (fun z H2 => z = .bl (decide (y = s)) ∧ H2 = H1) I1 rx rz ⟨rfl, by rw [show decide (V.str y = V.str s) = decide (y = s) from decide_eq_decide.mpr ⟨fun z => V.str.inj z, fun z => by rw [z]⟩]; exact ⟨rfl, rfl⟩⟩) fun b s2 ⟨z, H2, I2, rb, e1, e2⟩ => ?_)
  subst e1
  subst e2
  obtain rfl : b = Value.bool (decide (y = s)) := rb
  refine wpAny_bind (wpAny_truthy_bool ?_)
  by_cases e : y = s
  · rw [decide_eq_true e] at h ⊢
    rw [if_pos rfl] at h ⊢
    refine wpAny_pure ?_
    refine wpAny_bind (wpAny_holding ?_)
    first
      | (show wpAny _ _ (assignInOrder [] []) _ _ _; unfold assignInOrder)
      | skip
    refine wpAny_pure ?_
    refine wpAny_bind (wpAny_pure ?_)
    show wpAny _ _ (execs body X.env) _ _ _
    exact hb.run pins s2 σ H2 D I2 h
  · rw [decide_eq_false e] at h ⊢
    rw [if_neg Bool.false_ne_true] at h ⊢
    refine wpAny_pure ?_
    exact hr.run false pins s2 σ H2 D _ v I2 rx h
/-- case _ -/
theorem mc_any {p : Pos} {body : List Stmt} {rest : List MatchCase} {tb : TS} (hb : PSs X body tb) : MC X (⟨.MatchAs none none p, none, body⟩ :: rest) (fun _ => tb) := by
  refine ⟨fun first pins sh σ H D x v I rx h => ?_⟩
  rw [arm_matchCases_cons]
  refine wpAny_bind (wpAny_holding ?_)
  rw [arm_matchPattern_MatchAs]
  refine wpAny_pure ?_
  refine wpAny_bind (wpAny_holding ?_)
  first
    | (show wpAny _ _ (assignInOrder [] []) _ _ _; unfold assignInOrder)
    | skip
  refine wpAny_pure ?_
  refine wpAny_bind (wpAny_pure ?_)
  show wpAny _ _ (execs body X.env) _ _ _
  exact hb.run pins sh σ H D I h
/-- a match statement -/
def tMatch (te : TE) (ts : V → TS) : TS := fun D σ H => te σ H fun x H1 => ts x D σ H1
theorem ps_match {e : Expr} {cs : List MatchCase} {pos : Pos} {te : TE} {ts : V → TS} (he : PE X e te) (hc : MC X cs ts) : PS X (.Match e cs pos) (tMatch te ts) := by
  refine ⟨fun pins s σ H D I h => ?_⟩
  rw [arm_exec_Match]
  refine wpAny_bind (wpAny_standAt ?_)
  refine wpAny_bind (thn (he.run pins s σ H _ I h) fun v s1 ⟨x, H1, I1, rx, q⟩ => ?_)
  exact hc.run true pins s1 σ H1 D x v I1 rx q
end
end Vf

set_option maxRecDepth 100000
set_option maxHeartbeats 4000000
namespace Vf
open PySem PySem.Spec PyProof.Rows L2 SX LamX
/-! ### a def whose code object is told; lambdas handed on -/
structure FunC (K : PySem.W.Frag) (mg : Str → Option Value) (x : Str) (st : Stmt) (f : Addr) (fd : FuncData) (c : Addr) : Prop where
  ex : ∃ (oc : Value) (od : Option Addr) (dV kV doc pm : Value) (an : Option Addr) (ct : Value) (osl : Array (Option Value)),
    fd = PySem.W.fnOf x x (C8.fnArgs st) (C8.fnBody st) (C8.fnScope st) dV kV doc pm an (.ref c) ct ∧ K.lookup f = some ⟨oc, od, .func fd, osl⟩ ∧ PySem.W.codeIn K (.ref c) x = true
  mgf : mg x = some (.ref f)
  kp : PySem.W.keepIn K (.ref f) = true
section
variable {P : Program} {w : World} {K : PySem.W.Frag} {mg : Str → Option Value} {base : Heap}
theorem cal0c {x : Str} {st : Stmt} {f c : Addr} {fd : FuncData} {N ps : List Str} {k : Nat} {sp : Sp} (F : FunC K mg x st f fd c) (b : Binds K fd ps []) (S : FnScope N ps (C8.fnScope st)) (len : ∀ vs H Q E, sp vs H Q E → vs.length = ps.length)
    (hb : ∀ (A : Around) (outer : List Env) (s : Shared) (H : Hp) (vs : List V) (Q : VK) (E : XK), Room k (A.deeper (envOfC x (C8.fnScope st) s.heap.objs.size f (.ref c))) → sp vs H Q E →
      ∃ t, PSs (cxOf C8.CX0 P w K mg base N x (C8.fnScope st) f (.ref c) A outer s H E).nox (C8.fnBody st) t ∧ t { nx := fun _ h => Q .non h, rt := Q } (L2.start N vs) H) : C8.Cal P w K mg base (k + 1) x sp [] := by
  obtain ⟨oc, od, dV, kV, dc, pm, an, ct, sl, rfl, lk, hc⟩ := F.ex
  refine ⟨f, _, ps, [], fn_of lk hc S len fun A outer s H vs Q E hr h => ?_, F.mgf, F.kp, b, .nil⟩
  obtain ⟨t, h1, q⟩ := hb A outer s H vs Q E hr h
  exact ⟨t, h1.nox, q⟩
end
/-! ### repr of scalars -/
def reprV : V → Str
  | .non => "None"
  | .bl b => if b then "True" else "False"
  | .int i => toString i
  | .str x => reprText x
  | _ => ""
def ScR (v : V) : Prop := v = .non ∨ (∃ b, v = .bl b) ∨ (∃ i : Int, v = .int i ∧ i.natAbs.log2 < 1920) ∨ ∃ x : Str, v = .str x ∧ (reprText x).length ≤ sizeLine
theorem call_reprS {X : Cx} : CallR X (.builtin "repr") (fun xs H Q => ∃ v, xs = [v] ∧ ScR v ∧ Q (.str (reprV v)) H) := by
  intro pins s σ H xs us Q I r h
  obtain ⟨v, rfl, hv, q⟩ := h
  rcases hv with rfl | ⟨b, rfl⟩ | ⟨i, rfl, hz⟩ | ⟨x, rfl, hz⟩
  · obtain ⟨u, rfl, ru⟩ := vals1 r
    cases ru
    exact PySem.P.repr_of_none ⟨.str _, H, I.tok _, ⟨_, rfl⟩, q⟩
  · obtain ⟨u, rfl, ru⟩ := vals1 r
    cases ru
    exact PySem.P.repr_of_bool ⟨.str _, H, I.tok _, ⟨_, rfl⟩, q⟩
  · obtain ⟨u, rfl, t, rfl⟩ := vals1 r
    exact PySem.P.repr_of_int hz ⟨.str _, H, I.tok _, ⟨_, rfl⟩, q⟩
  · obtain ⟨u, rfl, t, rfl⟩ := vals1 r
    exact PySem.P.repr_of_str ⟨.str _, H, I.tok _, ⟨_, rfl⟩, q⟩ hz
/-! ### isinstance of a caught error that has a dict of its own -/
def rIsE2 (K : PySem.W.Frag) (cls : Value) (d : Option Addr) (a : Addr) : List V → Hp → VK → Prop := fun xs H Q => ∃ (D dd : Addr) (fs : List (Str × V)) (c : V) (cv : Value) (b : Bool), cls = .ref D ∧ d = some dd ∧ H dd = some (.xd fs) ∧ xs = [.ref a, c] ∧ ExcC K D ∧ (∀ u, RelV c u → u = cv) ∧ PySem.W.kitOne K (.ref D) cv = some b ∧ Q (.bl b) H
theorem call_isE2 {X : Cx} {a : Addr} {cls : Value} {d : Option Addr} {oe : Obj} {pn : List (Addr × Obj)} (hz : Zc cls d oe) (hf : ∃ vs, oe.data = .fields vs) : CallR (X.suite a ((a, oe) :: pn)) (.builtin "isinstance") (rIsE2 X.K cls d a) := by
  intro pins s σ H xs us Q I r h
  obtain ⟨D, dd, fs, c, cv, b, rfl, rfl, hd, rfl, C, hcv, e, q⟩ := h
  obtain ⟨u1, u2, rfl, r1, r2⟩ := vals2 r
  have ec := hcv _ r2
  subst ec
  obtain rfl : u1 = Value.ref a := r1
  obtain ⟨hget, _⟩ := I.pin (a, oe) (List.mem_append.mpr (.inl List.mem_cons_self))
  obtain ⟨vs, hv⟩ := hf
  have hx : ObjOk X.prog X.w H s.heap dd (.xd fs) := I.hok dd _ hd
  obtain ⟨mA, hns, _⟩ := hx
  obtain ⟨od, ho, _⟩ := lookIn_ns hns
  have J : PySem.W.InstAt s.heap a oe D (some od) := ⟨hget, hz.1, by unfold PySem.W.notCls; rw [hv] <;> rfl, by rw [hz.2]; exact ho⟩
  exact PySem.W.kia_one (kitx_exo C) I.kIn J e (fun z => nomatch z) fun tk => ⟨.bl b, H, I.tok tk, rfl, q⟩
theorem pe_fldK {X : Cx} {K : PySem.W.Frag} {e : Expr} {f : Str} {pos : Pos} {ta : TE} (hK : X.K = K) (he : PE X e ta) (hb : attributeBase e f X.env (eval e X.env) = eval e X.env) : PE X (.Attribute e f pos) (tFld K ta f) := by
  subst hK
  exact pe_fld he hb
def tKIx (K : PySem.W.Frag) (w : World) (td ty : TE) : TE := fun σ H Q => td σ H fun x H1 => ∃ d f, x = .ref d ∧ KD K w d f ∧ ty σ H1 fun y H2 => ∃ k v, y = .str k ∧ f k = some v ∧ Q v H2
/-- d[k], d a dict of the written part -/
theorem pe_kix {X : Cx} {o i : Expr} {pos : Pos} {td ty : TE} {K : PySem.W.Frag} {w : World} (hK : X.K = K) (hw : X.w = w) (ho : PE X o td) (hi : PE X i ty) (hs : NoSl i) : PE X (.Subscript o i pos) (tKIx K w td ty) := by
  subst hK hw
  refine ⟨fun pins s σ H Q I h => ?_⟩
  refine subD_of PySem.F.slot_dict_getitem.lookup hs (thn (ho.run pins s σ H _ I h) fun u s1 ⟨x, H1, I1, rx, d, g, ex, ⟨es, n, hl, hk, low, hg⟩, q1⟩ => thn (hi.run pins s1 σ H1 _ I1 q1) fun iv s2 ⟨y, H2, I2, ry, k, v, ey, ev, q2⟩ => ?_)
  subst ex
  subst ey
  obtain rfl : u = Value.ref d := rx
  obtain ⟨t, rfl⟩ := ry
  have hm := PySem.W.mapOf_K (prog := X.prog) (w := X.w) I2.kIn hl hk
  obtain ⟨z, hz, rz⟩ := RelO.some_of (v := v) (o := findBy Value.isStrOf es k) (by rw [← ev]; exact hg k)
  exact ⟨hm.typeIs, wpAny_getItem_of (strKind_is X.prog X.w k t) hm hz ⟨v, H2, I2.tok _, rz, q2⟩⟩
theorem pe_cls {X : Cx} {n : Str} {C : Addr} {p : Pos} (g : X.mg n = some (.ref C)) (hg : Gl X n) (hd : (n == ("__debug__" : Str)) = false := by decide) : PE X (.Name n p) (tC (.ref C)) := C8.pe_gc hg ⟨_, g, rfl⟩ hd
/-- what the two error classes say of one another -/
structure XF (K : PySem.W.Frag) (CB CN CW : Addr) : Prop where
  bb : PySem.W.exmOne K (.ref CB) (.ref CB) = some true
  nb : PySem.W.exmOne K (.ref CN) (.ref CB) = some false
  nn : PySem.W.exmOne K (.ref CN) (.ref CN) = some true
  bn : PySem.W.exmOne K (.ref CB) (.ref CN) = some false
  kb : PySem.W.kitOne K (.ref CB) (.ref CW) = some true
  kn : PySem.W.kitOne K (.ref CN) (.ref CW) = some true
  eb : ExcC K CB
  en : ExcC K CN
end Vf

set_option maxRecDepth 100000
set_option maxHeartbeats 4000000
namespace Vf
open PySem PySem.Spec PyProof.Rows L2 SX
/-! ### a comprehension whose element raises -/
section
variable {X : Cx} {pins : List (Addr × Obj)} {σ : L2.St} {H H2 : Hp} {s t : Shared} {E : XK} {C a : Addr} {B D G3 h9 : Heap} {cls : Value} {d : Option Addr}
theorem out_air (IX : Inv X pins σ H s) (fC : FpOk X pins H C) (oC : ∃ o, s.heap.get? C = some o) (hB : HOk X.prog X.w H2 B) (ub : UB (frs X.stack) H H2 s.heap B h9)
    (d1 : ∀ b, b ≠ C → D.get? b = B.get? b) (d2 : D.get? C = none) (sl3 : ∀ b o, s.heap.get? b = some o → b ∈ frs X.stack → ∃ sl, G3.get? b = some { o with slots := sl })
    (hh : HandSPX.HeldZ D X.stack a (Zc cls d) X.env.locals G3) (na : H2 a = none) (os : t.os = s.os) (ag : AllBare t.gens) (w : E cls d H2) :
    XE X (fun c d _ H => E c d H) (.ref a) { t with heap := G3 } := by
  have nC : H2 C = none := by
    obtain ⟨o, e⟩ := oC
    exact ub.free C o e fC.1
  have stD : D.StaysIn G3 := hh.1
  obtain ⟨G, r1, r2⟩ := restrict G3 fun b => (D.get? b).isSome || decide (b ∈ frs X.stack)
  have gd : ∀ b o, D.get? b = some o → G.get? b = some o := fun b o q => (r1 b (by rw [q]; rfl)).trans (stD b o q)
  have gf : ∀ b, b ∈ frs X.stack → G.get? b = G3.get? b := fun b q => r1 b (by rw [decide_eq_true q, Bool.or_true])
  have og : ∀ b o, G.get? b = some o → G3.get? b = some o ∧ ((D.get? b).isSome = true ∨ b ∈ frs X.stack) := fun b o q => by
    by_cases hp : ((D.get? b).isSome || decide (b ∈ frs X.stack)) = true
    · exact ⟨(r1 b hp).symm.trans q, (Bool.or_eq_true ..).mp hp |>.imp id fun z => of_decide_eq_true z⟩
    · rw [r2 b (Bool.eq_false_iff.mpr hp)] at q
      cases q
  have hG : HOk X.prog X.w H2 G := fun b o q => (hB b o q).stay (fun c u hc r => by
    have nc : c ≠ C := fun z => by
      rcases hc with hc | hc
      · rw [← hc, z, nC] at q; cases q
      · rw [z, nC] at hc; cases hc
    exact gd c u ((d1 c nc).trans r)) (fun _ z => z) fun _ _ z => z
  refine ⟨a, D, { s with heap := G, gens := t.gens, drawn := t.drawn, toks := t.toks }, pins, σ, H2, cls, d, rfl, ?_, fun b o q nb => ?_, Heap.UpToSlots.of_keeps fun b o q => (og b o q).1, .inr (.inr hh), na, os, ag, w⟩
  · refine IX.call (ch := [C]) ⟨fun b o q n nf nc => gd b o ((d1 b fun z => nc (by rw [z]; exact List.mem_singleton.mpr rfl)).trans (ub.keep b o q n nf)), fun b o q n hb nc => ?_, fun b o q n _ => ub.free b o q n, fun b o q nc => ?_, ub.tups, ub.frzs, ub.tbls⟩ hG ag (fun b hb => ?_)
    · obtain ⟨sl, z⟩ := sl3 b o q hb
      exact ⟨sl, (gf b hb).trans z⟩
    · by_cases hb : b ∈ frs X.stack
      · obtain ⟨sl, z⟩ := sl3 b o q hb
        exact ⟨_, (gf b hb).trans z⟩
      · obtain ⟨u, z⟩ := ub.there b o q hb
        exact ⟨u, gd b u ((d1 b fun y => nc (by rw [y]; exact List.mem_singleton.mpr rfl)).trans z)⟩
    · rw [List.mem_singleton.mp hb]
      exact ⟨fC.2.2.2.1, fC.2.1, fC.2.2.2.2.1, fC.2.2.2.2.2⟩
  · obtain ⟨q3, z⟩ := og b o q
    rcases z with z | z
    · obtain ⟨u, y⟩ := Option.isSome_iff_exists.mp z
      have := stD b u y
      rw [q3] at this
      rw [y, this]
    · exact absurd z nb
/-- such an exception passes the block -/
theorem out_block {ce : Env} {e : Value} {m : Str → Option Value} (hs : X.stack = X.env :: X.outer) (hf : X.env.frame = some X.env.locals) (cf : ce.frame = X.env.frame) (cl : ce.locals = C) (tk : Takes X (fun c d _ H => E c d H))
    (IX : Inv X pins σ H s) (fC : FpOk X pins H C) (nsC : s.heap.Ns C m) (c : CX X.prog X.w X.stack H s E e t) : notedBy (model X.prog X.w) X.A ce (CompFails (model X.prog X.w) X.A X.xe ce) e t := by
  obtain ⟨a, B, H2, cls, d, rfl, fl, hB, ub, na, os, ag, w⟩ := c
  have hfr : X.A.frames = some (X.env :: X.outer) := by rw [IX.ok.frames, hs]
  obtain ⟨oC, es, ep, gC, dC, rC⟩ := id nsC
  have sub := IX.stkSub
  have nCf : C ∉ frs X.stack := fun z => (List.mem_cons.mp (sub C z)).elim fC.2.1 fC.2.2.1
  have bC : B.get? C = some oC := ub.keep C oC gC fC.1 nCf
  show wpAny _ _ (noteFrame (.ref a) ce) _ _ t
  rw [noteFrame_env _ cf]
  rw [hs] at fl
  refine HandSPX.looks_onZ Zc.steady hfr hf fl fun h1 hH up => ?_
  obtain ⟨b1, b0, f1, oe, vs, T, oT, ts, he, hz, hd, hv, nT, Te, gT, dT, h3⟩ := hH
  have n1 : h1.Ns ce.locals m := by rw [cl]; exact ⟨oC, es, ep, b1 C oC bC, dC, rC⟩
  refine ⟨m, n1, fun h2 m2 n2 sb => ?_⟩
  rw [cl] at n2 sb
  obtain ⟨D, e1, e2⟩ := restrict B fun b => decide (b ≠ C)
  have d1 : ∀ b, b ≠ C → D.get? b = B.get? b := fun b hb => e1 b (decide_eq_true hb)
  have d2 : D.get? C = none := e2 C (decide_eq_false fun z => z rfl)
  have dn : ∀ b, B.get? b = none → D.get? b = none := fun b z => by
    by_cases y : b = C
    · rw [y]; exact d2
    · rw [d1 b y]; exact z
  have ac : a ≠ C := fun z => by rw [z, bC] at b0; cases b0
  have tc : T ≠ C := fun z => by rw [z, bC] at nT; cases nT
  have st2 : D.StaysIn h2 := fun b o q => by
    have y : b ≠ C := fun z => by rw [z, d2] at q; cases q
    rw [d1 b y] at q
    exact (sb.2 b y).trans (b1 b o q)
  have f2 : h2.FunFrames D (X.env :: X.outer) := funFrames_none (Heap.FunFrames.sameBut sb n2 f1) fun L hL => dn L (by
    obtain ⟨z, _⟩ := f1.mem hL
    exact z)
  have tr : HandSPX.TracedZ h2 D a (Zc cls d) (rawInt X.env.locals) := ⟨oe, vs, T, oT, ts, (sb.2 a ac).trans he, hz, hd, hv, dn T nT, Te, (sb.2 T tc).trans gT, dT, h3⟩
  unfold PySem.passOn
  refine wpAny_bind (wpAny_field ((sb.2 a ac).trans he) hd hv ?_)
  rw [if_neg (show ¬ ((Value.ref T == Value.none) = true) from by simp), cf, hf]
  refine wpAny_bind (HandSPX.setFlight_onZ (L := X.env.locals) (base := D) (l := X.env :: X.outer) (Z := Zc cls d) ⟨st2, dn a b0, f2, tr⟩ fun h3 hH3 up3 => ?_)
  refine wpAny_throw (tk _ _ (out_air IX fC ⟨oC, gC⟩ hB ub d1 d2 (fun b o q hb => ?_) (by rw [hs]; exact hH3) na os ag w))
  obtain ⟨sl, q1⟩ := ub.slot b o q hb
  obtain ⟨_, o', q2, nf⟩ := IX.stack.mem hb
  rw [q] at q2
  cases q2
  obtain ⟨sl2, q3⟩ := up b _ q1 nf
  have y : b ≠ C := fun z => nCf (z ▸ hb)
  obtain ⟨sl3, q4⟩ := up3 b _ ((sb.2 b y).trans q3) nf
  exact ⟨sl3, q4⟩
end
end Vf

set_option maxRecDepth 100000
set_option maxHeartbeats 4000000
namespace Vf
open PySem PySem.Spec PyProof.Rows L2 SX
abbrev BX (X : Cx) (s : Shared) (H : Hp) (scope : Scope) (cl : List (Str × Addr)) (C : Addr) (fp : List Addr) : Cx := X.blk s H scope (compEnvC scope cl C X.env) fp
/-- the element may raise what E wants -/
abbrev ElX (X : Cx) (E : XK) (scope : Scope) (elt : Expr) (te : TE) : Prop := ∀ (s : Shared) (H : Hp) (C : Addr) (cl : List (Str × Addr)) (fp : List Addr) (pn : List (Addr × Obj)) (xe : Value → Shared → Prop),
  (∀ σ, PassesAt (L2.CX X.prog X.w) ((BX X s H scope cl C fp).tr pn xe) σ E) → PE ((BX X s H scope cl C fp).tr pn xe) elt te
section
variable {X : Cx} {E : XK}
theorem lc_coreX {pins : List (Addr × Obj)} {s : Shared} {σ : L2.St} {H : Hp} {Q : VK} {elt tg iter : Expr} {ifs : List Expr} {scope : Scope} {own : List (Str × Nat)} {pos pos' : Pos} {wi : TI} {g : TG} {tt : TT} {te : TE} {use : Option (Value → Sem Unit)} {Qf : Value → Shared → Prop}
    (ss : X.stack = X.env :: X.outer) (sf : X.env.frame = some X.env.locals) (tk : Takes X (fun c d _ H => E c d H)) (calm : X.calm = true) (nd : X.N.Nodup) (I : Inv X pins σ H s) (pi : PI X tg iter wi) (bo : BlkOk X.N X.env.scope scope own)
    (pg : ∀ s H C cl fp, PG (BX X s H scope cl C fp) tg g) (pt : ∀ s H C cl fp, PTs (BX X s H scope cl C fp) ifs tt) (px : ElX X E scope elt te) (fo : ∀ x, foldedSetIterable iter X.env x = pure x)
    (h : tLc wi g tt te (own.map (·.2)) σ H Q)
    (fin : ∀ D ce s' m H', Inv X pins σ H' s' → Q (.ref D) H' → s'.heap.Ns ce.locals m → FpOk X pins H' ce.locals → compEnds (model X.prog X.w) X.A X.xe use Qf (.ref D) ce (.ok .next) s') :
    wpAny (model X.prog X.w) X.A (comprehension (.ListComp elt [⟨tg, iter, ifs, 0⟩] scope pos) scope X.env pos' (newList []) false (eval iter X.env) use) Qf X.xe s := by
  have fr : ∀ y ∈ scope.names, y.2 = .free → ∃ c, X.env.cells.lookup y.1 = some c := fun y hy e =>
    (bo.free y hy e).elim (fun k => I.ok.has _ (.inl k)) fun k => I.ok.has _ (.inr k)
  refine comprehension_at (use := use) rfl fo (closure_ok fr) bo.kind (fun y hy e => (bo.uniq y hy).trans (congrArg some e)) (thn (pi.run pins s σ H _ I h) fun xv s1 hx => thn hx fun itv s2 z2 => ?_)
  obtain ⟨it, fp, tn, J, H2, rfl, I2, T, st2, f2, q⟩ := z2
  refine wpAny_newObj_type (newEnv_comp ?_) (by show 0 ≤ sizeLine; decide)
  obtain ⟨D, eD⟩ : ∃ D, D = s2.heap.objs.size := ⟨_, rfl⟩
  have nD : H2 D = none := I2.hok.fresh (Nat.le_of_eq eD.symm)
  obtain ⟨W, ⟨m0, w0⟩, turn⟩ := q D nD
  obtain ⟨s3, es3⟩ : ∃ s3 : Shared, s3 = { s2 with heap := s2.heap.push { cls := .type "list", data := .seq ([] : List Value).toArray } } := ⟨_, rfl⟩
  rw [← es3, ← eD]
  have h3 : s3.heap = s2.heap.push { cls := .type "list", data := .seq ([] : List Value).toArray } := by rw [es3]
  have I3 : Inv X pins σ (upd H2 D (.lst [])) s3 := by
    rw [es3]
    refine I2.laid (t' := s2.toks) (fun b o e => Heap.get?_push_of_some _ e) (Nat.le_of_eq eD.symm) ⟨Nat.zero_le _, [], 0, .nil, ?_⟩
    rw [eD]
    exact Heap.get?_push_size _ rfl
  have f3 : ∀ b ∈ fp, FpOk X pins (upd H2 D (.lst [])) b ∧ b < s3.heap.objs.size := fun b hb => by
    obtain ⟨o, e, _⟩ := T.obj _ _ st2 b hb
    have lt := Heap.lt_size e
    refine ⟨⟨?_, (f2 b hb).2⟩, by rw [h3, Heap.size_push]; exact Nat.lt_succ_of_lt lt⟩
    rw [upd_ne (by rw [eD]; exact Nat.ne_of_lt lt)]
    exact (f2 b hb).1
  have st3 : tn 0 s3.heap := T.keep _ _ _ st2 fun b _ o e => by rw [h3]; exact Heap.get?_push_of_some _ e
  obtain ⟨H3, eH3⟩ : ∃ H3, H3 = upd H2 D (.lst []) := ⟨_, rfl⟩
  rw [← eH3] at I3 f3 w0
  have I4 := block_start I3 bo nd f3
  obtain ⟨C, eC⟩ : ∃ C, C = s3.heap.objs.size := ⟨_, rfl⟩
  rw [← eC] at I4 ⊢
  obtain ⟨cl, ecl⟩ : ∃ cl, cl = cellsFrom (C + 1) scope.names (cloFrom X.env.cells scope.names []) := ⟨_, rfl⟩
  rw [← ecl] at I4
  have pg := pg s3 H3 C cl fp
  have pt := pt s3 H3 C cl fp
  have px := px s3 H3 C cl fp
  obtain ⟨ce, ece⟩ : ∃ ce, ce = compEnvC scope cl C X.env := ⟨_, rfl⟩
  have cL : ce.locals = C := by rw [ece]; rfl
  have cF : ce.frame = X.env.frame := by rw [ece]; rfl
  have Y : BX X s3 H3 scope cl C fp = X.blk s3 H3 scope ce fp := by rw [ece]
  have goal : codeAny (model X.prog X.w) X.A (.compStart (.ListComp elt [⟨tg, iter, ifs, 0⟩] scope pos) 0 (.ref it) (.ref D) ce) (compEnds (model X.prog X.w) X.A X.xe use Qf (.ref D) ce) { s3 with heap := pushCells (s3.heap.push { cls := .type "dict", data := .dict #[] }) scope.names } := by
    rw [Y] at pg pt px
    rw [← ece] at I4
    obtain ⟨s4, es4⟩ : ∃ s4 : Shared, s4 = { s3 with heap := pushCells (s3.heap.push { cls := .type "dict", data := .dict #[] }) scope.names } := ⟨_, rfl⟩
    rw [← es4] at I4 ⊢
    have st4 : tn 0 s4.heap := T.keep _ _ _ st3 fun b _ o e => by rw [es4]; exact pushCells_keeps _ _ _ _ (Heap.get?_push_of_some _ e)
    have stat : ∀ {σ' : L2.St} {H' : Hp} {s' : Shared}, Inv (X.blk s3 H3 scope ce fp) [] σ' H' s' → (∀ b ∈ fp, H' b = none) → ∀ b ∈ fp, FpOk (X.blk s3 H3 scope ce fp) [] H' b := fun {σ' H' s'} J' n b hb =>
      ⟨n b hb, (J'.ok.exf b hb).1, J'.ok.exfs b hb, .inl hb, fun x c e => (J'.ok.exf b hb).2 x c e, fun p hp => absurd (show p ∈ ([] : List (Addr × Obj)) ++ [] from hp) (by simp)⟩
    -- what the def's context knows of a state within
    have back : ∀ {pn : List (Addr × Obj)} {σ' : L2.St} {H' : Hp} {s' : Shared}, Inv (X.blk s3 H3 scope ce fp) pn σ' H' s' → Inv X pins σ H' s' ∧ FpOk X pins H' C ∧ ∃ m, s'.heap.Ns C m := fun {pn σ' H' s'} J' => by
      have z : H' ce.locals = none := J'.free
      rw [cL] at z
      obtain ⟨m, hm, _⟩ := J'.loc
      have hm : s'.heap.Ns ce.locals m := hm
      rw [cL] at hm
      exact ⟨I3.call' (ch := fp) J'.os J'.base J'.hok J'.bare fun b hb => ⟨(f3 b hb).1.2.2.2.1, (f3 b hb).1.2.1, (f3 b hb).1.2.2.2.2.1, (f3 b hb).1.2.2.2.2.2⟩, I3.fpOk (Nat.le_of_eq eC.symm) z, m, hm⟩
    have loop : codeAny (model X.prog X.w) X.A (.compLoop (.ListComp elt [⟨tg, iter, ifs, 0⟩] scope pos) 0 (.ref it) (.ref D) ce) (compEnds (model X.prog X.w) X.A X.xe use Qf (.ref D) ce) s4 := by
      refine compLoop_any (fun n s' => ∃ i H', Inv (X.blk s3 H3 scope ce fp) [] (wipe σ (own.map (·.2))) H' s' ∧ tn i s'.heap ∧ (∀ b ∈ fp, H' b = none) ∧ W i n H') ?_ m0 ⟨0, H3, I4, st4, fun b hb => (f3 b hb).1.1, w0⟩
      rintro n s5 ⟨i, H5, I5, st5, n5, w5⟩
      rcases turn i n H5 w5 with ⟨stop, qq⟩ | ⟨go, Nx, hNx, step⟩
      · refine thnF (T.done (X.blk s3 H3 scope ce fp) rfl rfl rfl calm i [] s5 _ H5 (fun _ _ => False) I5 (stat I5 n5) st5 stop) fun r s6 ⟨hr, I6⟩ => ?_
        subst hr
        obtain ⟨b1, b2, m, b3⟩ := back I6
        exact fin D ce s6 m H5 b1 qq (by rw [cL]; exact b3) (by rw [cL]; exact b2)
      · refine thnF (T.item (X.blk s3 H3 scope ce fp) rfl rfl rfl calm i [] s5 _ H5 (fun _ _ => False) I5 (stat I5 n5) st5 go) fun r s6 ⟨u, hr, h6⟩ => ?_
        subst hr
        refine thnF h6 fun _ s7 ⟨x, H7, I7, r7, y7, st7, n7⟩ => ?_
        have I8 := I7.pinned (stat I7 n7) (T.obj _ _ st7)
        refine thnF (pg.run _ s7 _ H7 x u _ I8 r7 (step x H7 y7)) fun _ s8 ⟨σ8, H8, I9, w8, q8⟩ => ?_
        refine thnF (pt.run _ s8 σ8 H8 _ I9 q8) fun b s9 ⟨H9, J9, q9⟩ => ?_
        have next : ∀ {s' : Shared} {H' : Hp}, Inv (X.blk s3 H3 scope ce fp) ([] ++ pinsAt fp s7.heap) σ8 H' s' → Nx H' → ∃ m, m < n ∧ ∃ i H', Inv (X.blk s3 H3 scope ce fp) [] (wipe σ (own.map (·.2))) H' s' ∧ tn i s'.heap ∧ (∀ b ∈ fp, H' b = none) ∧ W i m H' := fun {s' H'} K nx => by
          obtain ⟨m', lt, w'⟩ := hNx H' nx
          have there : ∀ b ∈ fp, ∀ o, s7.heap.get? b = some o → s'.heap.get? b = some o ∧ H' b = none := fun b hb o e =>
            ⟨(K.pin (b, o) (List.mem_append_right _ (List.mem_append_right _ (mem_pinsAt hb e)))).1, (K.pin (b, o) (List.mem_append_right _ (List.mem_append_right _ (mem_pinsAt hb e)))).2.1⟩
          refine ⟨m', lt, i + 1, H', (K.unpinned (pins := [])).weak (by rw [← w8, wipe_length]) (fun j v e => (wipe_some (by rw [← w8] at e; exact e)).1), T.keep _ _ _ st7 fun b hb o e => (there b hb o e).1, fun b hb => ?_, w'⟩
          obtain ⟨o, e, _⟩ := T.obj _ _ st7 b hb
          exact (there b hb o e).2
        cases b with
        | false =>
          rw [if_neg Bool.false_ne_true] at q9 ⊢
          exact next J9 q9
        | true =>
          rw [if_pos rfl] at q9 ⊢
          have pas : ∀ σ, PassesAt (L2.CX X.prog X.w) ((X.blk s3 H3 scope ce fp).tr ((X.blk s3 H3 scope ce fp).pn ++ ([] ++ pinsAt fp s7.heap)) (notedBy (model X.prog X.w) X.A ce fun e s' => compEnds (model X.prog X.w) X.A X.xe use Qf (.ref D) ce (.error e) s')) σ E := fun σ' pins' Hc sc e sd K c => by
            obtain ⟨b1, b2, m, b3⟩ := back (K.ofTry J9.ok)
            have z := out_block ss sf cF cL tk b1 b2 b3 c
            cases use <;> exact z
          refine wpAny_mono ((px _ _ pas).run [] s9 σ8 H9 _ (J9.toTry _) q9) (fun z s10 ⟨yv, H10, I10, r10, acc, hD, hz, nx⟩ => ?_) fun _ _ y => y
          exact app_ok (X := X.blk s3 H3 scope ce fp) (I10.ofTry J9.ok) hD hz r10 fun s11 I11 => next I11 nx
    exact codeAny_compStart_list loop (T.self X.A 0 _ _ _ st4 loop)
  rw [ece, ecl] at goal
  exact goal
/-- name = [..], the element may raise -/
theorem ps_setLcX {i : Nat} {y : Str} {py : Pos} {elt tg iter : Expr} {ifs : List Expr} {scope : Scope} {own : List (Str × Nat)} {pos spos : Pos} {wi : TI} {g : TG} {tt : TT} {te : TE}
    (ss : X.stack = X.env :: X.outer) (sf : X.env.frame = some X.env.locals) (tk : Takes X (fun c d _ H => E c d H)) (calm : X.calm = true) (nd : X.N.Nodup) (hy : X.N[i]? = some y) (lo : X.env.scope.names.lookup y = some .local)
    (sw : swapsWith (.ListComp elt [⟨tg, iter, ifs, 0⟩] scope pos) (some (.Name y py)) spos.line X.env = pure true) (pi : PI X tg iter wi) (bo : BlkOk X.N X.env.scope scope own)
    (pg : ∀ s H C cl fp, PG (BX X s H scope cl C fp) tg g) (pt : ∀ s H C cl fp, PTs (BX X s H scope cl C fp) ifs tt) (px : ElX X E scope elt te) (fo : ∀ x, foldedSetIterable iter X.env x = pure x := by intro _; rfl) :
    PS X (.Assign [.Name y py] (.ListComp elt [⟨tg, iter, ifs, 0⟩] scope pos) spos) (tAsg (tLc wi g tt te (own.map (·.2))) (gName i)) := by
  refine ⟨fun pins s σ H D I h => ?_⟩
  rw [exec_Assign_Name_used _ _ _ _ sw]
  refine wpAny_bind (wpAny_standAt (wpAny_bind ?_))
  have h : tLc wi g tt te (own.map (·.2)) σ H (fun x H1 => gName i x σ H1 D.nx) := h
  refine wpAny_bind (thn (lc_coreX (E := E) (Qf := fun _ s' => SP X pins D .next s') (use := some (assign (.Name y py) X.env)) ss sf tk calm nd I pi bo pg pt px fo h fun L ce s' m H' J q n f => ?_) fun _ s' z => wpAny_pure (wpAny_pure z))
  show wpAny _ _ (assign (.Name y py) X.env (.ref L)) _ _ _
  refine wpAny_assign_Name (store_ok2 (v := V.ref L) J nd hy (.inl lo) rfl (fun s2 I2 ⟨a, sb, ha⟩ => ?_) (.inr lo))
  have ca : ce.locals ≠ a := ha.elim (fun z => z ▸ f.2.1) fun z e => f.2.2.2.2.1 y a z e.symm
  exact ⟨m, n.sameBut sb ca, fun h3 sb3 => ⟨_, H', I2.turned (t' := s2.toks) (fun b o hb e => (sb3.2 b hb).trans e) f.1 f.2.1 f.2.2.2.1 f.2.2.2.2.1 f.2.2.2.2.2, q⟩⟩
end
section
variable {X : Cx} {E : XK} {k j : Nat} {x : Str} {sp : Sp} {p pos : Pos} {e : Expr} {es : List Expr} {t : TA}
theorem pe_cxP (c : CalX X.prog X.w X.K X.mg X.base k x sp) (hr : Room j X.A) (hk : k ≤ j) (hg : Gl X x) (pa : ∀ σ, PassesAt (L2.CX X.prog X.w) X σ E) (ha : PA X (e :: es) t)
    (hdb : (x == ("__debug__" : Str)) = false := by decide) (he : starEach (e :: es) X.env = (false, eval e X.env) :: starEach es X.env := by rfl) (hpl : (backTo pos (starEach es X.env)).any (·.1) = false := by rfl) :
    PE X (.Call (.Name x p) (e :: es) [] pos) (tCallS sp (fun _ => E) t) := by
  obtain ⟨f, fd, ps, F, hm, kp, b⟩ := c.ex
  exact pe_callS F (hr.mono hk) hg hm kp b pa ha hdb he hpl
end
end Vf

set_option maxRecDepth 100000
set_option maxHeartbeats 4000000
namespace Vf
open PySem PySem.Spec PyProof.Rows L2 SX LamX
/-! ### sorted(xs, key=lambda x: ..) -/
theorem clo_none {cells : List (Str × Addr)} : ∀ {names : List (Str × NameKind)} {acc : List (Str × Addr)}, (∀ y ∈ names, y.2 ≠ .free) → cloFrom cells names acc = acc
  | [], _, _ => rfl
  | (n, k) :: r, acc, h => by
    unfold cloFrom
    have hk : (k == NameKind.free) = false := by
      have := h (n, k) (.head _)
      simpa using this
    rw [if_neg (by rw [hk]; simp)]
    exact clo_none fun y hy => h y (.tail _ hy)
section
variable {X : Cx} {pins : List (Addr × Obj)} {σ : L2.St} {H : Hp} {s : Shared}
theorem key_run {k : Nat} {A' : Around} {x q : Str} {N : List Str} {scope : Scope} {params : Arguments} {body : Expr} {f c' : Addr} {pm ctv v : Value} {y : V} {tb : TE} {Q : VK} (I : Inv X pins σ H s) (S : FnScope N [x] scope)
    (hf : s.heap.get? f = some (PySem.W.kla_obj "<lambda>" q params body scope [] pm c' ctv)) (hb : bindArgs (PySem.W.kla_fn "<lambda>" q params body scope [] pm (.ref c') ctv) ⟨[v], []⟩ = pure [(x, v)])
    (hr : Room (k + 1) A') (e0 : Env0 X.prog X.w X.K X.mg X.base A' X.stack s H) (hc : H c' = some (CodeO c' q)) (r : RelV y v)
    (hbody : ∀ (A : Around) (outer : List Env) (s : Shared) (H : Hp), Room k (A.deeper (envOfC q scope s.heap.objs.size f (.ref c'))) → PE (cxOf C8.CX0 X.prog X.w X.K X.mg X.base N q scope f (.ref c') A outer s H C8.E0) body tb)
    (ht : tb (L2.start N [y]) H Q) :
    codeAny (model X.prog X.w) A' (.call (.ref f) ⟨[v], []⟩) (CR C8.CX0 X.stack X.prog X.w H s Q C8.E0) s := by
  obtain ⟨⟨oc, vs, t, hoc, hdc, hvc⟩, _, _⟩ := I.hok c' _ hc
  have lim : s.heap.NoLimit := e0.mod.nolimit.keeps fun b o e => (e0.bs b o e).1
  have hkind : ∀ y ∈ [(x, v)], scope.names.lookup y.1 = some .local ∨ (scope.names.lookup y.1 = some .cell ∧ ((cellsFrom (s.heap.objs.size + 1) scope.names []).lookup y.1).isSome = true) := fun y hy => by
    rw [List.mem_singleton.mp hy]
    rcases S.par x (.head _) with q | q
    · exact .inl q
    · exact .inr ⟨q, PySem.W.cellsFrom_some _ _ _ (.inl q)⟩
  refine PySem.W.kla_callFunE hr.depth hf rfl S.co S.gen rfl ⟨c', oc, vs, t, rfl, hoc, hdc, hvc⟩ ?_
  rw [hb]
  refine wpAny_pure ?_
  refine wpAny_newFunctionEnv_cells S.kind hkind fun env he s1 xx => ?_
  subst he
  refine ⟨lim.keeps xx.toInCall.keep, ?_⟩
  show codeAny _ _ (.expr body (envOfC q scope s.heap.objs.size f (.ref c'))) _ _
  have J : Inv (cxOf C8.CX0 X.prog X.w X.K X.mg X.base N q scope f (.ref c') A' X.stack s H C8.E0) [] (L2.start N [y]) H s1 := inv_start (ps := [x]) (us := [v]) S hr.hd e0 rfl (.cons r .nil) xx
  refine PySem.W.kla_codeExpr (wpAny_mono ((hbody _ _ s H (hr.deeper _)).run [] s1 (L2.start N [y]) H Q J ht) (fun v s' hq => ?_) fun e s' hq => hq)
  obtain ⟨w', H', J', rv, q⟩ := hq
  exact ⟨w', H', J'.os, J'.bare, J'.base, J'.hok, rv, q⟩
/-- what a key's call does: a number, nothing else -/
def KEnd (X : Cx) (pins : List (Addr × Obj)) (σ : L2.St) (H : Hp) (k : Int) (u : Value) (s' : Shared) : Prop := ∃ t, u = .int k t ∧ Inv X pins σ H s'
theorem key_call {k : Nat} {A' : Around} {x q : Str} {N : List Str} {scope : Scope} {params : Arguments} {body : Expr} {f c' : Addr} {pm ctv v : Value} {y : V} {tb : TE} {z : Int} (I : Inv X pins σ H s) (S : FnScope N [x] scope)
    (hf : s.heap.get? f = some (PySem.W.kla_obj "<lambda>" q params body scope [] pm c' ctv)) (hb : bindArgs (PySem.W.kla_fn "<lambda>" q params body scope [] pm (.ref c') ctv) ⟨[v], []⟩ = pure [(x, v)])
    (hr : Room (k + 1) A') (e0 : Env0 X.prog X.w X.K X.mg X.base A' X.stack s H) (hc : H c' = some (CodeO c' q)) (r : RelV y v)
    (hbody : ∀ (A : Around) (outer : List Env) (s : Shared) (H : Hp), Room k (A.deeper (envOfC q scope s.heap.objs.size f (.ref c'))) → PE (cxOf C8.CX0 X.prog X.w X.K X.mg X.base N q scope f (.ref c') A outer s H C8.E0) body tb)
    (ht : tb (L2.start N [y]) H fun v' H' => v' = .int z ∧ H' = H) :
    wpAny (model X.prog X.w) A' (call (.ref f) [v]) (KEnd X pins σ H z) (fun _ _ => False) s := by
  refine wpAny_call (codeAny_mono (key_run I S hf hb hr e0 hc r hbody ht) fun rr s2 hq => ?_)
  cases rr with
  | error e => exact (show False from hq).elim
  | ok fl =>
    cases fl with
    | ret u =>
      obtain ⟨v', H', I', rv, rfl, rfl⟩ := I.after hq
      obtain ⟨t, rfl⟩ := rv
      exact ⟨t, rfl, I'⟩
    | next => exact False.elim hq
    | brk => exact False.elim hq
    | cont => exact False.elim hq
variable {A : Around} {E : Value → Shared → Prop} {a kS : Addr} {b : Bool} {vs : List Value} {kz : List Int} {keys : Array Value} {e e1 : Nat} {P : PySem.Fin → Shared → Prop}
theorem sk_tail {st : SortSt} (I : Inv X pins σ H s) (fa : FpOk X pins H a) (fk : FpOk X pins H kS) (hoa : s.heap.get? a = some (seqObj "list" #[] e1)) (hok : s.heap.get? kS = some (seqObj "list" keys e)) (hka : kS ≠ a)
    (hk : IntsAre keys.toList kz) (hlen : kz.length = vs.length) (h64 : vs.length < 64) (hp : (arrOf st).Perm (keys.zip vs.toArray)) (hs : SortedTo (arrOf st) (arrOf st).size) (hfl : failedOf st = none)
    (h : ∀ h' tk out c, Inv X pins σ H { s with heap := h', toks := tk } → h'.get? a = some (seqObj "list" out c) → KskOut b kz vs out.toList → P (.done (.ret .none)) { s with heap := h', toks := tk }) :
    wpAny (model X.prog X.w) A (ksk_tail a b e1 (.ref kS) st) P E s := by
  have hsz : keys.size = vs.length := by
    have h1 := hk.length
    rw [Array.length_toList] at h1
    omega
  have hsz2 : (arrOf st).size = vs.length := by rw [hp.size_eq, Array.size_zip, hsz, List.size_toArray, Nat.min_self]
  have hout : (if b then ((arrOf st).map (·.2)).reverse else (arrOf st).map (·.2)).size = vs.length := by
    cases b with
    | false => simp only [Bool.false_eq_true, if_false, Array.size_map]; exact hsz2
    | true => simp only [if_true, Array.size_reverse, Array.size_map]; exact hsz2
  have s1 := Heap.SameBut.update s.heap kS (Obj.mapSeq fun _ => (#[] : Array Value))
  have na1 : (s.heap.update kS (Obj.mapSeq fun _ => (#[] : Array Value))).get? a = some (seqObj "list" #[] e1) := (s1.2 a hka.symm).trans hoa
  have s2 := Heap.SameBut.update (s.heap.update kS (Obj.mapSeq fun _ => (#[] : Array Value))) a (Obj.mapSeq fun _ => if b then ((arrOf st).map (·.2)).reverse else (arrOf st).map (·.2))
  obtain ⟨c2, hc2⟩ : ∃ c2, ((s.heap.update kS (Obj.mapSeq fun _ => (#[] : Array Value))).update a (Obj.mapSeq fun _ => if b then ((arrOf st).map (·.2)).reverse else (arrOf st).map (·.2))).get? a = some (seqObj "list" (if b then ((arrOf st).map (·.2)).reverse else (arrOf st).map (·.2)) c2) :=
    ⟨_, get?_update_seq na1 fun _ => if b then ((arrOf st).map (·.2)).reverse else (arrOf st).map (·.2)⟩
  unfold ksk_tail
  try dsimp only
  refine wpAny_bind (listUpdate_at hok rfl ?_ (by rw [hsz, sizeLine_eq]; omega) (Nat.zero_le _))
  refine wpAny_bind (wpAny_letGo ?_)
  refine wpAny_bind (seqEpoch_at na1 rfl ?_)
  refine wpAny_bind (listUpdate_at na1 rfl ?_ (Nat.zero_le _) (Nat.le_trans (Nat.le_of_eq hout) (by rw [sizeLine_eq]; omega)))
  rw [hfl]
  simp only [bne_self_eq_false, Bool.false_eq_true, if_false]
  refine wpAny_pure (h _ _ _ c2 (I.turnedL (ch := [a, kS]) (fun d o hd e => ?_) fun d hd => ?_) hc2 (ksk_out hk hp hs))
  · have n1 : d ≠ a := fun z => hd (by simp [z])
    have n2 : d ≠ kS := fun z => hd (by simp [z])
    exact (s2.2 d n1).trans ((s1.2 d n2).trans e)
  · rcases List.mem_cons.mp hd with rfl | hd
    · exact fa
    · rw [List.mem_singleton.mp hd]; exact fk
theorem sk_end (I : Inv X pins σ H s) (fa : FpOk X pins H a) (fk : FpOk X pins H kS) (hoa : s.heap.get? a = some (seqObj "list" #[] e1)) (hok : s.heap.get? kS = some (seqObj "list" keys e)) (hka : kS ≠ a)
    (hk : IntsAre keys.toList kz) (hlen : kz.length = vs.length) (h64 : vs.length < 64)
    (h : ∀ h' tk out c, Inv X pins σ H { s with heap := h', toks := tk } → h'.get? a = some (seqObj "list" out c) → KskOut b kz vs out.toList → P (.done (.ret .none)) { s with heap := h', toks := tk }) :
    wpAny (model X.prog X.w) A (ksk_end a b vs.toArray e1 (.ref kS) keys) P E s := by
  have hsz : keys.size = vs.length := by
    have h1 := hk.length
    rw [Array.length_toList] at h1
    omega
  have hzs : (keys.zip vs.toArray).size = vs.length := by rw [Array.size_zip, hsz, List.size_toArray, Nat.min_self]
  have step : ∀ t : Sem PySem.Fin, wpAny (model X.prog X.w) A t P E s → wpAny (model X.prog X.w) A (if b = true then (do let _ ← rule "list.sort.reverse"; t) else t) P E s := by
    intro t ht
    split
    · exact wpAny_bind (wpAny_rule ht)
    · exact ht
  have hstart : (if b = true then (keys.zip vs.toArray).reverse else keys.zip vs.toArray).Perm (keys.zip vs.toArray) := by
    cases b with
    | false => exact Array.Perm.refl _
    | true => exact Array.perm_iff_toList_perm.mpr (by rw [if_pos rfl, Array.toList_reverse]; exact List.reverse_perm _)
  unfold ksk_end
  try dsimp only
  refine step _ ?_
  by_cases h2 : vs.toArray.size < 2
  · rw [if_pos h2, if_pos h2]
    refine wpAny_bind (wpAny_pure ?_)
    rw [StateT.run_pure]
    refine wpAny_bind (wpAny_pure ?_)
    try dsimp only
    refine sk_tail (st := SortSt.mk' general' (if b = true then (keys.zip vs.toArray).reverse else keys.zip vs.toArray) #[] 7 none) I fa fk hoa hok hka hk hlen h64 hstart ?_ rfl h
    intro i j hij hj
    have hj2 : j < (if b = true then (keys.zip vs.toArray).reverse else keys.zip vs.toArray).size := hj
    rw [hstart.size_eq, hzs] at hj2
    rw [List.size_toArray] at h2
    have : i = j := by omega
    subst this
    exact Int.le_refl _
  · rw [if_neg h2, if_neg h2]
    rw [List.size_toArray] at h2
    rw [ksk_kind hk (by rw [hsz]; omega)]
    refine wpAny_bind (wpAny_pure ?_)
    refine wpAny_bind (wpAny_mono (wpS_sortRuns (a₀ := keys.zip vs.toArray) (st := SortSt.mk' oneType' (if b = true then (keys.zip vs.toArray).reverse else keys.zip vs.toArray) #[] 7 none)
      (Q := fun _ st' => (arrOf st').Perm (keys.zip vs.toArray) ∧ failedOf st' = none ∧ SortedTo (arrOf st') (keys.zip vs.toArray).size)
      (ksk_intKeys hk) ⟨hstart, rfl, rfl, rfl⟩ (by rw [hzs]; omega) (by rw [hzs]; exact h64) fun st' a1 a2 a3 => ⟨a1, a2, a3⟩) ?_ fun _ _ e => e)
    rintro ⟨⟨⟩, st'⟩ s' ⟨rfl, hp, hf, hs⟩
    try dsimp only
    exact sk_tail I fa fk hoa hok hka hk hlen h64 hp (by rw [hp.size_eq]; exact hs) hf h
theorem sk_rest {f : Value} (I : Inv X pins σ H s) (fa : FpOk X pins H a) (fk : FpOk X pins H kS) (hoa : s.heap.get? a = some (seqObj "list" #[] e1)) (hok : s.heap.get? kS = some (seqObj "list" #[] 0)) (hka : kS ≠ a)
    (hlen : kz.length = vs.length) (h64 : vs.length < 64)
    (turn : ∀ (i : Nat) (v : Value) (k : Int), vs[i]? = some v → kz[i]? = some k → ∀ (pl : List (Addr × Obj)) (s' : Shared), Inv X (pins ++ pl) σ H s' → wpAny (model X.prog X.w) A (call f [v]) (KEnd X (pins ++ pl) σ H k) (fun _ _ => False) s')
    (h : ∀ (s' : Shared) (h' : Heap) (tk : Nat) (out : Array Value) (c : Nat), Inv X pins σ H { s' with heap := h', toks := tk } → h'.get? a = some (seqObj "list" out c) → KskOut b kz vs out.toList → P (.done (.ret .none)) { s' with heap := h', toks := tk }) :
    wpAny (model X.prog X.w) A (ksk_rest a f b vs.toArray e1 (.ref kS)) P E s := by
  unfold ksk_rest
  refine wpAny_bind (wpAny_rule ?_)
  first
    | rw [List.forIn_toArray]
    | (rw [← Array.forIn_toList]; simp only [List.toList_toArray])
    | rw [← Array.forIn_toList]
  refine wpAny_bind (ksk_fold (fun i s' => ∃ kA e, Inv X pins σ H s' ∧ s'.heap.get? a = some (seqObj "list" #[] e1) ∧ s'.heap.get? kS = some (seqObj "list" kA e) ∧ IntsAre kA.toList (kz.take i)) vs 0 s
    ⟨#[], 0, I, hoa, hok, by simpa using IntsAre.nil⟩ ?step ?done)
  case step =>
    rintro j x s' hx ⟨kA, e, I', oa, ok, hk⟩
    simp only [Nat.zero_add] at hk ⊢
    have hj : j < vs.length := (List.getElem?_eq_some_iff.mp hx).1
    obtain ⟨k, hkj⟩ : ∃ k, kz[j]? = some k := ⟨_, List.getElem?_eq_getElem (by omega)⟩
    have hz : kA.size ≤ vs.length := by
      have h1 := hk.length
      rw [Array.length_toList, List.length_take] at h1
      omega
    have hfp : ∀ b ∈ [a, kS], FpOk X pins H b := fun d hd => by
      rcases List.mem_cons.mp hd with rfl | hd
      · exact fa
      · rw [List.mem_singleton.mp hd]; exact fk
    have hob : ∀ b ∈ [a, kS], ∃ o, s'.heap.get? b = some o ∧ ∀ v, o.data ≠ .cell v := fun d hd => by
      rcases List.mem_cons.mp hd with rfl | hd
      · exact ⟨_, oa, fun v z => by cases z⟩
      · rw [List.mem_singleton.mp hd]; exact ⟨_, ok, fun v z => by cases z⟩
    refine wpAny_bind (wpAny_attempt (wpAny_mono (turn j x k hx hkj _ s' (I'.pinned hfp hob)) (fun v s'' he => ?_) fun _ _ hF => hF.elim))
    obtain ⟨t2, rfl, I2⟩ := he
    try dsimp only
    have oa2 := (I2.pin (a, seqObj "list" #[] e1) (List.mem_append_right _ (List.mem_append_right _ (mem_pinsAt (by simp) oa)))).1
    have ok2 := (I2.pin (kS, seqObj "list" kA e) (List.mem_append_right _ (List.mem_append_right _ (mem_pinsAt (by simp) ok)))).1
    have I3 := I2.unpinned
    have s1 := Heap.SameBut.update s''.heap kS (Obj.mapSeq (·.push (.int k t2)))
    obtain ⟨c2, hc2⟩ : ∃ c2, (s''.heap.update kS (Obj.mapSeq (·.push (.int k t2)))).get? kS = some (seqObj "list" (kA.push (.int k t2)) c2) := ⟨_, get?_update_seq ok2 (·.push (.int k t2))⟩
    have ek : kz.take (j + 1) = kz.take j ++ [k] := by rw [List.take_add_one, hkj]; simp
    have ea : (kA.push (Value.int k t2)).toList = kA.toList ++ [Value.int k t2] := by simp
    refine wpAny_bind (listUpdate_at ok2 rfl ?_ (by rw [sizeLine_eq]; omega) (Nat.le_trans (Nat.le_of_eq (Array.size_push ..)) (by rw [sizeLine_eq]; omega)))
    refine wpAny_pure ⟨rfl, kA.push (.int k t2), c2, I3.turnedL (ch := [kS]) (fun d o hd e => (s1.2 d fun z => hd (by simp [z])).trans e) (fun d hd => by rw [List.mem_singleton.mp hd]; exact fk), (s1.2 a hka.symm).trans oa2, hc2, by rw [ea, ek]; exact ksk_snoc hk⟩
  case done =>
    rintro s' ⟨kA, e, I', oa, ok, hk⟩
    have hk' : IntsAre kA.toList kz := by
      have e3 : kz.take (0 + vs.length) = kz := List.take_of_length_le (by omega)
      rw [e3] at hk
      exact hk
    try dsimp only
    refine wpAny_bind (listItems_at ok rfl ?_)
    exact sk_end I' fa fk oa ok hka hk' hlen h64 fun h3 tk3 out c F3 N3 k3 => h s' h3 tk3 out c F3 N3 k3
theorem sk_sort {f : Value} {n : Nat} (I : Inv X pins σ H s) (fa : FpOk X pins H a) (ho : s.heap.get? a = some (seqObj "list" vs.toArray n))
    (hlen : kz.length = vs.length) (h64 : vs.length < 64)
    (turn : ∀ (i : Nat) (v : Value) (k : Int), vs[i]? = some v → kz[i]? = some k → ∀ (pl : List (Addr × Obj)) (s' : Shared), Inv X (pins ++ pl) σ H s' → wpAny (model X.prog X.w) A (call f [v]) (KEnd X (pins ++ pl) σ H k) (fun _ _ => False) s')
    (h : ∀ (s' : Shared) (h' : Heap) (tk : Nat) (out : Array Value) (c : Nat), Inv X pins σ H { s' with heap := h', toks := tk } → h'.get? a = some (seqObj "list" out c) → KskOut b kz vs out.toList → P (.done (.ret .none)) { s' with heap := h', toks := tk }) :
    wpAny (model X.prog X.w) A (ksk_tree a f b) P E s := by
  have ha : a < s.heap.objs.size := Heap.lt_size ho
  have s1 := Heap.SameBut.update s.heap a (Obj.mapSeq fun _ => (#[] : Array Value))
  obtain ⟨e1, ho1⟩ : ∃ e1, (s.heap.update a (Obj.mapSeq fun _ => (#[] : Array Value))).get? a = some (seqObj "list" #[] e1) := ⟨_, get?_update_seq ho fun _ => #[]⟩
  have hkS : ((s.heap.update a (Obj.mapSeq fun _ => (#[] : Array Value))).push (seqObj "tuple" vs.toArray 0)).objs.size = s.heap.objs.size + 1 := by rw [size_push', Heap.size_update]
  unfold ksk_tree
  refine wpAny_bind (listItems_at ho rfl ?_)
  refine wpAny_bind (listUpdate_at ho rfl ?_ (by rw [List.size_toArray, sizeLine_eq]; omega) (Nat.zero_le _))
  refine wpAny_bind (seqEpoch_at ho1 rfl ?_)
  refine wpAny_bind (wpAny_newTuple ?_ (by show vs.length ≤ _; rw [sizeLine_eq]; omega))
  refine wpAny_bind (wpAny_newList ?_ (Nat.zero_le _))
  refine wpAny_holding ?_
  refine sk_rest (s := { s with heap := ((s.heap.update a (Obj.mapSeq fun _ => (#[] : Array Value))).push (seqObj "tuple" vs.toArray 0)).push (seqObj "list" #[] 0) }) (kS := ((s.heap.update a (Obj.mapSeq fun _ => (#[] : Array Value))).push (seqObj "tuple" vs.toArray 0)).objs.size)
    (I.turnedL (t' := s.toks) (ch := [a]) (fun d o hd e => ?_) fun d hd => ?_) fa (I.fpOk (by rw [hkS]; omega) (I.hok.fresh (by rw [hkS]; omega))) ?_ ?_ (by rw [hkS]; exact Nat.ne_of_gt (Nat.lt_succ_of_lt ha)) hlen h64 turn h
  · exact Heap.get?_push_of_some _ (Heap.get?_push_of_some _ ((s1.2 d fun z => hd (by simp [z])).trans e))
  · rw [List.mem_singleton.mp hd]; exact fa
  · exact Heap.get?_push_of_some _ (Heap.get?_push_of_some _ ho1)
  · exact Heap.get?_push_size _ rfl
end
end Vf

set_option maxRecDepth 100000
set_option maxHeartbeats 4000000
namespace Vf
open PySem PySem.Spec PyProof.Rows L2 SX LamX
section
variable {X : Cx} {pins : List (Addr × Obj)} {σ : L2.St} {H : Hp} {s : Shared} {E : Value → Shared → Prop} {b : Bool} {vs : List Value} {kz : List Int} {Q : Value → Shared → Prop}
theorem sk_sorted {l : Addr} {f : Value} {kw : List (Str × Value)} (I : Inv X pins σ H s) (hl : s.heap.IsList l vs.toArray) (hlen : kz.length = vs.length) (h64 : vs.length < 64)
    (ha1 : argsOk "sorted" ⟨[.ref l], kw⟩) (ha2 : ∀ x, argsOk "list.sort" ⟨[.ref x], kw⟩) (ht : ∀ x, Builtin.«list.sort» ⟨[.ref x], kw⟩ = ksk_tree x f b)
    (turn : ∀ (i : Nat) (v : Value) (k : Int), vs[i]? = some v → kz[i]? = some k → ∀ (pl : List (Addr × Obj)) (s' : Shared), Inv X (pins ++ pl) σ H s' → wpAny (model X.prog X.w) X.A.in1.in1 (call f [v]) (KEnd X (pins ++ pl) σ H k) (fun _ _ => False) s')
    (h : ∀ (D : Addr) (s' : Shared) (h' : Heap) (tk : Nat) (out : Array Value) (c : Nat), Inv X pins σ H { s' with heap := h', toks := tk } → FpOk X pins H D → h'.get? D = some (seqObj "list" out c) → KskOut b kz vs out.toList → Q (.ref D) { s' with heap := h', toks := tk }) :
    wpAny (model X.prog X.w) X.A (call (.builtin "sorted") [.ref l] kw) Q E s := by
  refine call_function_entry_kw kind_sorted plain_sorted entry_sorted ha1 ?_
  unfold Builtin.«sorted»
  refine wpAny_bind (m := checkCount "sorted" 1 1 _) (wpAny_pure ?_)
  refine wpAny_bind (collect_list hl ?_ (by rw [sizeLine_eq]; omega))
  refine wpAny_bind (wpAny_newList ?_ (by rw [sizeLine_eq]; omega))
  have hsz : ((s.heap.push (seqObj "list" #[] 0)).update s.heap.objs.size (Obj.mapSeq (· ++ vs.toArray))).objs.size = s.heap.objs.size + 1 := by
    rw [Heap.size_update, size_push']
  have hoL : (((s.heap.push (seqObj "list" #[] 0)).update s.heap.objs.size (Obj.mapSeq (· ++ vs.toArray))).push (seqObj "list" vs.toArray 0)).get? (s.heap.objs.size + 1) = some (seqObj "list" vs.toArray 0) := by
    rw [← hsz]; exact Heap.get?_push_size _ rfl
  have keep : ∀ b o, s.heap.get? b = some o → (((s.heap.push (seqObj "list" #[] 0)).update s.heap.objs.size (Obj.mapSeq (· ++ vs.toArray))).push (seqObj "list" vs.toArray 0)).get? b = some o := fun b o q => by
    have hlt : b < s.heap.objs.size := Heap.lt_size q
    rw [Heap.get?_push_ne _ _ _ (by rw [hsz]; exact Nat.ne_of_lt (Nat.lt_succ_of_lt hlt)), Heap.get?_update_ne _ _ _ _ (Nat.ne_of_lt hlt), Heap.get?_push_ne _ _ _ (Nat.ne_of_lt hlt)]
    exact q
  have fD : FpOk X pins H (s.heap.objs.size + 1) := I.fpOk (Nat.le_succ _) (I.hok.fresh (Nat.le_succ _))
  show wpAny _ _ _ _ _ { s with heap := ((s.heap.push (seqObj "list" #[] 0)).update s.heap.objs.size (Obj.mapSeq (· ++ vs.toArray))).push (seqObj "list" vs.toArray 0) }
  rw [hsz]
  refine wpAny_bind (wpAny_holding (wpAny_call_entry_kw slot_list_sort ⟨_, hoL, rfl⟩ entry_list_sort ?body (ha2 _)))
  case body =>
    have ht' := ht (s.heap.objs.size + 1)
    show wpAny (model X.prog X.w) X.A.in1.in1 (Builtin.«list.sort» ⟨[.ref (s.heap.objs.size + 1)], kw⟩) _ _ _
    rw [ht']
    refine sk_sort (s := { s with heap := ((s.heap.push (seqObj "list" #[] 0)).update s.heap.objs.size (Obj.mapSeq (· ++ vs.toArray))).push (seqObj "list" vs.toArray 0) })
      (I.kept (t' := s.toks) keep) fD hoL hlen h64 turn fun s' h' tk out c I' o' k' => ⟨_, rfl, ?_⟩
    exact wpAny_pure ⟨_, rfl, h _ s' h' tk out c I' fD o' k'⟩
theorem track_list {D : Addr} {ys : List V} {out : Array Value} {c : Nat} (I : Inv X pins σ H s) (f : FpOk X pins H D) (ho : s.heap.get? D = some (seqObj "list" out c)) (r : Vals ys out.toList) (hz : ys.length ≤ sizeLine) : Inv X pins σ (upd H D (.lst ys)) s := by
  have nD : ∀ b u, H b = some u → b ≠ D := fun b u e => ne_of_none e f.1
  refine I.step (h' := s.heap) (g' := s.gens) (d' := s.drawn) (t' := s.toks) (ch := [D]) (fun b hb => ?_) (fun b o _ _ _ e _ => e) (fun b o _ _ _ e _ => ⟨o.slots, e⟩) (fun b o hb _ n => ?_) (fun b o _ e => ⟨o, e⟩) (fun b xs e => ?_) (fun b o u e => ?_) (fun b ps e => ⟨#[], ?_⟩) (fun m hm => hm) (fun b u e => ?_) I.bare
  · rw [List.mem_singleton.mp hb]
    exact ⟨f.2.2.2.1, f.2.1, f.2.2.2.2.1, f.2.2.2.2.2⟩
  · rw [upd_ne fun z => hb (by simp [z])]; exact n
  · rw [upd_ne (nD b _ e)]; exact e
  · rw [upd_ne (nD b _ e)]; exact e
  · rw [upd_ne (nD b _ e), e]; simp
  · by_cases hb : b = D
    · subst hb
      rw [upd_same] at e
      cases e
      exact ⟨hz, out.toList, c, r, by rw [Array.toArray_toList]; exact ho⟩
    · rw [upd_ne hb] at e
      exact (I.hok b u e).stay (fun d v hd q => q) (fun d q => by rw [upd_ne (nD d _ q)]; exact q) fun d xs q => by rw [upd_ne (nD d _ q)]; exact q
end
theorem perm_map_inv {α β : Type} {f : α → β} {l₁ l₂ : List β} (p : l₁.Perm l₂) : ∀ {l : List α}, l₂ = l.map f → ∃ l' : List α, l'.Perm l ∧ l₁ = l'.map f := by
  induction p with
  | nil => intro l h; exact ⟨l, .refl _, h⟩
  | cons x p ih =>
    intro l h
    cases l with
    | nil => cases h
    | cons a l0 =>
      rw [List.map_cons] at h
      cases h
      obtain ⟨l', q, rfl⟩ := ih rfl
      exact ⟨a :: l', q.cons a, rfl⟩
  | swap x y l0 =>
    intro l h
    cases l with
    | nil => cases h
    | cons a l1 =>
      cases l1 with
      | nil => cases h
      | cons c l2 =>
        simp only [List.map_cons] at h
        cases h
        exact ⟨c :: a :: l2, .swap _ _ _, rfl⟩
  | trans p q ih1 ih2 =>
    intro l h
    obtain ⟨l1, q1, e1⟩ := ih2 h
    obtain ⟨l2, q2, e2⟩ := ih1 e1
    exact ⟨l2, q2.trans q1, e2⟩
theorem vals_zip : ∀ {xs : List V} {vs : List Value}, Vals xs vs → (∀ p ∈ xs.zip vs, RelV p.1 p.2) ∧ (xs.zip vs).map Prod.fst = xs
  | _, _, .nil => ⟨fun _ h => (nomatch h), rfl⟩
  | _, _, .cons r t => ⟨fun p hp => by
      rcases List.mem_cons.mp hp with rfl | hp
      · exact r
      · exact (vals_zip t).1 p hp, by
      simp only [List.zip_cons_cons, List.map_cons, (vals_zip t).2]⟩
theorem vals_of {zs : List (V × Value)} (h : ∀ p ∈ zs, RelV p.1 p.2) : Vals (zs.map Prod.fst) (zs.map Prod.snd) := by
  induction zs with
  | nil => exact .nil
  | cons p r ih => exact .cons (h p (.head _)) (ih fun q hq => h q (.tail _ hq))
/-- what comes out, told of the values -/
theorem ksk_vals {k : V → Int} {xs : List V} {vs out : List Value} (r : Vals xs vs) (h : KskOut false (xs.map k) vs out) : ∃ ys : List V, ys.Perm xs ∧ ys.Pairwise (fun p q => k p ≤ k q) ∧ Vals ys out := by
  obtain ⟨ps, hp, rfl, hs⟩ := h
  have e : (xs.map k).zip vs = (xs.zip vs).map fun p => (k p.1, p.2) := by
    rw [List.zip_map_left]
    rfl
  rw [e] at hp
  obtain ⟨zs, q, rfl⟩ := perm_map_inv hp rfl
  obtain ⟨r1, r2⟩ := vals_zip r
  refine ⟨zs.map Prod.fst, ?_, ?_, ?_⟩
  · have := q.map Prod.fst
    rw [r2] at this
    exact this
  · rw [List.pairwise_map] at hs ⊢
    exact hs.imp fun {a c} h => by simpa using h
  · have e2 : (zs.map fun p : V × Value => (k p.1, p.2)).map Prod.snd = zs.map Prod.snd := by rw [List.map_map]; rfl
    rw [e2]
    exact vals_of fun p hp => r1 p (q.mem_iff.mp hp)
def tSortK (K : PySem.W.Frag) (T : List (Addr × Str)) (N : List Str) (tb : TE) (ta : TA) : TE := fun σ H Q => ta σ H fun ws H1 => ∃ (a : Addr) (xs : List V) (k : V → Int), ws = [.ref a] ∧ SqL K H1 a xs ∧ xs.length < 64 ∧ Tabs T H1 ∧
  (∀ H2, ExtN H1 H2 → ∀ y ∈ xs, tb (L2.start N [y]) H2 fun v' H' => v' = .int (k y) ∧ H' = H2) ∧
  ∀ (H2 : Hp) (D : Addr) (ys : List V), ExtN H1 H2 → Tabs T H2 → H2 D = none → ys.Perm xs → ys.Pairwise (fun p q => k p ≤ k q) → Q (.ref D) (upd H2 D (.lst ys))
theorem sqL_extN {K : PySem.W.Frag} {H H' : Hp} {a : Addr} {xs : List V} (h : SqL K H a xs) (e : ExtN H H') : SqL K H' a xs := by
  rcases h with (h | ⟨o, h⟩) | h
  · exact .inl (.inl (e _ _ h fun _ z => by cases z))
  · exact .inl (.inr ⟨o, e _ _ h fun _ z => by cases z⟩)
  · exact .inr h
/-- sorted(xs, key=lambda x: ..) -/
theorem pe_sortedK {X : Cx} {T : List (Addr × Str)} {c P : Addr} {k : Nat} {x : Str} {N : List Str} {params : Arguments} {body : Expr} {scope : Scope} {e : Expr} {ta : TA} {tb : TE} {p pos kpos lpos : Pos} (hg : Gl X "sorted") (hm : X.mg "sorted" = none)
    (TB : TabB X.base X.mg c P) (hcode : X.env.code = .ref c) (hmT : (P, X.env.qual ++ "<lambda>") ∈ T) (hu : ∀ p ∈ T, p.1 = P → p.2 = X.env.qual ++ "<lambda>") (hr : Room (k + 3) X.A) (S : FnScope N [x] scope) (hdef : defaultsOf params X.env = ([], []))
    (hbind : ∀ (q : Str) (cl : List (Str × Addr)) (pm cv ctv v : Value), bindArgs (PySem.W.kla_fn "<lambda>" q params body scope cl pm cv ctv) ⟨[v], []⟩ = pure [(x, v)])
    (hbody : ∀ (A : Around) (outer : List Env) (s : Shared) (H : Hp) (f c' : Addr), Room k (A.deeper (envOfC (X.env.qual ++ "<lambda>") scope s.heap.objs.size f (.ref c'))) → PE (cxOf C8.CX0 X.prog X.w X.K X.mg X.base N (X.env.qual ++ "<lambda>") scope f (.ref c') A outer s H C8.E0) body tb)
    (ha : PA X [e] ta) (he : backTo pos (starEach [e] X.env) = (false, eval e X.env) :: backTo pos (starEach [] X.env) := by rfl) (hpl : (backTo pos (starEach [e] X.env)).any (·.1) = false := by rfl) :
    PE X (.Call (.Name "sorted" p) [e] [⟨some "key", .Lambda params body scope lpos, kpos⟩] pos) (tSortK X.K T N tb ta) := by
  refine ⟨fun pins s σ H Q I h => ?_⟩
  refine wpAny_Call_Name_kw (ld_blt I hg hm (u := .builtin "sorted") (by rfl) ?_ (by decide) (by decide))
  refine PyProof.Rows.callWith_kw (thn (ha.run pos pins s σ H _ I h) fun us s1 ⟨ws, H1, I1, r1, a, xs, key, ew, hxs, h64, hT, hkey, q1⟩ => ?_) he hpl (by rfl) (by rfl)
  subst ew
  obtain ⟨u1, rfl, ru⟩ := vals1 r1
  obtain rfl : u1 = Value.ref a := ru
  show wpAny _ _ (evalAll ((do let v ← eval (.Lambda params body scope lpos) X.env; standAt pos; pure v) :: [])) _ _ s1
  refine wpAny_evalAll_cons (wpAny_bind (lam_make2 I1 TB hcode hmT hu hT hdef (fun y hy e => absurd e (S.nofree y hy)) fun f c' pm' ctv H2 s2 I2 eN T2 hf hfn hfr hco => wpAny_bind (wpAny_standAt (wpAny_pure (wpAny_evalAll_nil ?_)))))
  rw [clo_none S.nofree] at hf
  obtain ⟨vs, rv, pl, hsl⟩ := I2.list (sqL_extN hxs eN)
  have hvl : xs.length = vs.length := rv.length
  have fs : f ∉ X.fs := fun z => hfr (by
    rcases I2.ok.stk with e | ⟨e, _⟩
    · rw [e]; exact z
    · rw [e]
      show f ∈ frs (X.env :: X.outer)
      unfold frs
      rw [List.filterMap_cons]
      split
      · exact z
      · exact .tail _ z)
  have fl : f ≠ X.env.locals := fun z => by
    obtain ⟨m, ⟨o, es, ep, ho, hd', _⟩, _⟩ := I2.loc
    rw [← z, hf] at ho
    cases ho
    cases hd'
  have J : Inv X (pins ++ [(f, PySem.W.kla_obj "<lambda>" (X.env.qual ++ "<lambda>") params body scope [] pm' c' ctv)]) σ H2 s2 := I2.pins_of fun p hp => by
    rcases List.mem_append.mp hp with hp | hp
    · exact I2.pin p (List.mem_append_right _ hp)
    · rw [List.mem_singleton.mp hp]
      exact ⟨hf, hfn, fl, fs, fun v z => by cases z⟩
  show wpAny _ _ (call (.builtin "sorted") [.ref a] [(Str.ofString "key", .ref f)]) _ _ s2
  refine sk_sorted (kz := xs.map key) (vs := vs) (b := false) (f := .ref f) J pl.isList (by rw [List.length_map]; exact hvl) (by omega) (ksk_s1 _ _) (fun x => ksk_l1 _ _) (fun x => ksk_t1 f x) (fun i v kk hv hk pl' s' I' => ?_) fun D s' h' tk out cc I' fD ho ko => ?_
  · have hi : i < xs.length := by
      have := (List.getElem?_eq_some_iff.mp hv).1
      omega
    have hy : xs[i]? = some xs[i] := List.getElem?_eq_getElem hi
    obtain ⟨u, hu', ru⟩ := rv.get hy
    rw [hv] at hu'
    cases hu'
    rw [List.getElem?_map, hy] at hk
    cases hk
    have of' := (I'.pin (f, PySem.W.kla_obj "<lambda>" (X.env.qual ++ "<lambda>") params body scope [] pm' c' ctv) (List.mem_append_right _ (List.mem_append_left _ (List.mem_append_right _ (.head _))))).1
    exact key_call I' S of' (hbind _ _ _ _ _ _) hr.in1.in1 I'.env0.in1.in1 hco ru (fun A outer s H hr' => hbody A outer s H f c' hr') (hkey H2 eN xs[i] (List.getElem_mem hi))
  · obtain ⟨ys, hp, hs, hv⟩ := ksk_vals rv ko
    have I3 : Inv X pins σ H2 { s' with heap := h', toks := tk } := I'.unpinned
    have fD' : FpOk X pins H2 D := ⟨fD.1, fD.2.1, fD.2.2.1, fD.2.2.2.1, fD.2.2.2.2.1, fun p hp => fD.2.2.2.2.2 p (by
      rcases List.mem_append.mp hp with z | z
      · exact List.mem_append_left _ z
      · exact List.mem_append_right _ (List.mem_append_left _ z))⟩
    refine ⟨.ref D, _, track_list I3 fD' ho hv ?_, rfl, q1 H2 D ys eN T2 fD.1 hp hs⟩
    have e1 := hp.length_eq
    rw [sizeLine_eq]
    omega
end Vf

set_option maxRecDepth 100000
set_option maxHeartbeats 4000000
namespace Vf
open PySem PySem.Spec PyProof.Rows L2 SX
/-! ### enumerate of a text -/
def Ites (x : Str) : It := ⟨fun i _ => i < x.cps.size, fun i H v H' => ∃ T c, v = .ref T ∧ H T = none ∧ x.cps[i]? = some c ∧ H' = upd H T (.tup [.int (i : Nat), .str ⟨#[c]⟩]), fun i _ => i = x.cps.size⟩
def SignP (x : Str) (i : Nat) (v : Value) : Prop := ∃ c t, x.cps[i]? = some c ∧ v = .str ⟨#[c]⟩ t
theorem draws_str {P : Program} {w : World} {A : Around} (hd : A.handled = none) (it : Addr) (x : Str) (t : Tok) : Draws P w A it [it] x.cps.size (SignP x) (fun i h => h.IsStrIter it (strIterType x) x t i) := by
  unfold strIterType
  split
  · exact Draws.strAscii hd it x t
  · exact Draws.strWide hd it x t
theorem turn_enumS {P : Program} {w : World} {K : PySem.W.Frag} {es : List Expr} {kk : Nat} {tp : Pos} (e it : Addr) (x : Str) (t : Tok) :
    Turn P w K (.Tuple es kk tp) (Ites x) [e, it] e (fun i h => (∃ old, IsEnum h e it ((i : Nat) : Int) old) ∧ h.IsStrIter it (strIterType x) x t i ∧ e ≠ it) where
  mem := List.mem_cons_self ..
  obj := fun i h st b hb => by
    obtain ⟨⟨old, he⟩, ⟨o, ho, hc, hdd⟩, _⟩ := st
    rcases List.mem_cons.mp hb with rfl | hb
    · exact ⟨_, he, fun v q => nomatch q⟩
    · cases List.mem_singleton.mp hb
      exact ⟨o, ho, fun v q => nomatch hdd.symm.trans q⟩
  keep := fun i h h' st k => by
    obtain ⟨⟨old, he⟩, ⟨o, ho, r⟩, ne⟩ := st
    exact ⟨⟨old, k e (by simp) _ he⟩, ⟨o, k it (by simp) o ho, r⟩, ne⟩
  item := by
    intro X hP hw hK hc i pins s σ H E I hf st hg
    subst hP hw hK
    obtain ⟨⟨old, he⟩, hit, ne⟩ := st
    have le : e < s.heap.objs.size := Heap.lt_size he
    have li : it < s.heap.objs.size := by obtain ⟨_, q, _⟩ := hit; exact Heap.lt_size q
    refine wpAny_pyNext_enum_itemD (St := fun i h => h.IsStrIter it (strIterType x) x t i) (draws_str (A := X.A.in1) (I.ok.hd hc) it x t) he hit hg ne (fun z => ne (List.mem_singleton.mp z)) fun v h' tk pv ho hit' hT hsz hk => ?_
    obtain ⟨c, u, hcx, rfl⟩ := pv
    refine ⟨_, rfl, wpAny_letOwnedTupleGo_enum (s := { s with heap := h', toks := tk + 1 }) ho fun h2 he2 sb => ?_⟩
    have hT2 := (sb.2 _ (Nat.ne_of_gt le)).trans hT
    have new : ObjOk X.prog X.w (upd H s.heap.objs.size (.tup [.int (i : Nat), .str ⟨#[c]⟩])) h2 s.heap.objs.size (.tup [.int (i : Nat), .str ⟨#[c]⟩]) :=
      ⟨(by decide : 2 ≤ sizeLine), [.int i tk, .str ⟨#[c]⟩ u], .cons ⟨_, rfl⟩ (.cons ⟨_, rfl⟩ .nil), ⟨_, hT2, rfl, _, rfl⟩⟩
    have I1 : Inv X pins σ (upd H s.heap.objs.size (.tup [.int (i : Nat), .str ⟨#[c]⟩])) { s with heap := h2, toks := tk + 1 } :=
      I.turnedNew (ch := [e, it]) (fun b ob hb q => (sb.2 b (fun z => hb (by simp [z]))).trans (hk b ob (fun z => hb (by simp [z])) (fun z => hb (by simp [z])) q)) hf (Nat.le_refl _) new
    refine ⟨.ref s.heap.objs.size, _, I1, rfl, ⟨_, c, rfl, I.hok.fresh (Nat.le_refl _), hcx, rfl⟩, ⟨⟨.str ⟨#[c]⟩ u, ?_⟩, ?_, ne⟩, fun b hb => ?_⟩
    · rw [show ((i + 1 : Nat) : Int) = (i : Int) + 1 by omega]; exact he2
    · obtain ⟨oo, g1, g2⟩ := hit'
      exact ⟨oo, (sb.2 it (Ne.symm ne)).trans g1, g2⟩
    · have lb : b < s.heap.objs.size := by
        rcases List.mem_cons.mp hb with rfl | hb
        · exact le
        · cases List.mem_singleton.mp hb; exact li
      rw [upd_ne (Nat.ne_of_lt lb)]
      exact (hf b hb).1
  done := by
    intro X hP hw hK hc i pins s σ H E I hf st hg
    subst hP hw hK
    obtain ⟨⟨old, he⟩, hit, ne⟩ := st
    obtain rfl : i = x.cps.size := hg
    obtain ⟨f0, f1, f2, f3, f4, f5⟩ := hf it (by simp)
    exact wpAny_pyNext_enum_endD (St := fun i h => h.IsStrIter it (strIterType x) x t i) (draws_str (A := X.A.in1) (I.ok.hd hc) it x t) he hit fun h' eb => ⟨rfl, I.turned (t' := s.toks) (fun b o hb q => eb b o hb q) f0 f1 f3 f4 f5⟩
  self := fun A i s Q E st h => by
    obtain ⟨⟨_, he⟩, _⟩ := st
    exact wpAny_pyIter_enum he h
def iEnumS (ta : TA) : TI := fun σ H R => ta σ H fun vs H1 => ∃ x, vs = [.str x] ∧ R (Ites x) H1
theorem pi_enumS {X : Cx} {e : Expr} {ta : TA} {p pos tpos : Pos} {es : List Expr} {kk : Nat} (hg : Gl X "enumerate") (hm : X.mg "enumerate" = none) (ha : PA X [e] ta) (hs : starEach [e] X.env = [(false, eval e X.env)] := by rfl) :
    PI X (.Tuple es kk tpos) (.Call (.Name "enumerate" p) [e] [] pos) (iEnumS ta) := by
  refine ⟨fun pins s σ H R I h => ?_⟩
  refine Call_ (ld_blt I hg hm boot_enumerate (PyProof.Rows.callWith_type1 (thn (ha.run pos pins s σ H _ I h) fun us s1 ⟨vs, H1, I1, r1, q1⟩ => ?_) hs rfl))
  obtain ⟨x, rfl, q⟩ := q1
  cases r1 with
  | cons r rr =>
    cases rr
    obtain ⟨t, rfl⟩ := r
    refine call_enumerate_str fun h' he hit hz hk => wpAny_pyIter_enum he ?_
    refine ⟨s1.heap.objs.size + 1, [s1.heap.objs.size + 1, s1.heap.objs.size], _, _, H1, rfl, I1.kept (t' := s1.toks) hk, turn_enumS (s1.heap.objs.size + 1) s1.heap.objs.size x t, ⟨⟨.none, he⟩, hit, Nat.succ_ne_self _⟩, fun b hb => ?_, q⟩
    have le : s1.heap.objs.size ≤ b := by
      rcases List.mem_cons.mp hb with rfl | hb
      · exact Nat.le_succ _
      · cases List.mem_singleton.mp hb; exact Nat.le_refl _
    exact I1.fpOk le (I1.hok.fresh le)
theorem walk_enumS {x : Str} : Walk (Ites x) x.cps.size (fun _ => True) (fun i H v H' => ∃ T c, v = .ref T ∧ H T = none ∧ x.cps[i]? = some c ∧ H' = upd H T (.tup [.int (i : Nat), .str ⟨#[c]⟩])) :=
  ⟨fun i H h _ => h, fun _ _ => rfl, fun i H v H' _ _ y => y⟩
end Vf

set_option maxRecDepth 100000
set_option maxHeartbeats 4000000
namespace Vf
open PySem PySem.Spec PyProof.Rows L2 SX LamX
theorem vals_get : ∀ {xs : List V} {us : List Value}, xs.length = us.length → (∀ (i : Nat) (x : V) (y : Value), xs[i]? = some x → us[i]? = some y → RelV x y) → Vals xs us
  | [], [], _, _ => .nil
  | [], _ :: _, h, _ => nomatch h
  | _ :: _, [], h, _ => nomatch h
  | x :: xs, u :: us, h, r => .cons (r 0 x u rfl rfl) (vals_get (Nat.succ.inj h) fun i x y hx hy => r (i + 1) x y hx hy)
theorem ne_cls {s : Shared} {a b : Addr} {T T' : String} (h : s.TypeIs (.ref a) T) (h' : s.TypeIs (.ref b) T') (n : T ≠ T') : a ≠ b := fun z => by
  obtain ⟨o, ho, hc⟩ := h
  obtain ⟨o', ho', hc'⟩ := h'
  rw [z, ho'] at ho
  cases ho
  rw [hc] at hc'
  exact n (Value.type.inj hc')
/-! ### list(text) -/
theorem call_listS {X : Cx} (hc : X.calm = true) : CallR X (.type "list") (fun xs H Q => ∃ (l : List Nat), xs = [.str (S l)] ∧ l.length ≤ 1000000 ∧ ∀ p, H p = none → Q (.ref p) (upd H p (.lst (l.map fun c => .str (S [c]))))) := by
  intro pins s σ H xs us Q I r h
  obtain ⟨l, rfl, hl, q⟩ := h
  obtain ⟨u, rfl, ru⟩ := vals1 r
  obtain ⟨t, rfl⟩ := ru
  have hz0 : (S l).cps.size = l.length := by show l.toArray.size = _; exact List.size_toArray
  refine call_list_str (I.ok.hd hc) (S l) t (hn := by rw [hz0]; exact Nat.le_trans hl (by decide)) fun h' tk acc' c' hk hS' hacc => ?_
  have hz : acc'.size = l.length := by rw [hacc.1, hz0]
  have hv : Vals (l.map fun c => V.str (S [c])) acc'.toList := by
    refine vals_get (by rw [List.length_map, Array.length_toList]; exact hz.symm) fun i x y hx hy => ?_
    rw [List.getElem?_map] at hx
    obtain ⟨c, u, hc', rfl⟩ := hacc.2 i y (by rw [← Array.getElem?_toList]; exact hy)
    have e : l[i]? = some c := by
      have : (S l).cps[i]? = l[i]? := by show l.toArray[i]? = _; rw [List.getElem?_toArray]
      rw [← this]; exact hc'
    rw [e] at hx
    cases hx
    exact ⟨u, rfl⟩
  refine ⟨.ref s.heap.objs.size, _, I.laid (a := s.heap.objs.size) (o := .lst (l.map fun c => V.str (S [c]))) (t' := tk) hk (Nat.le_refl _) ⟨by rw [List.length_map]; exact Nat.le_trans hl (by decide), acc'.toList, c', hv, by rw [Array.toArray_toList]; exact hS'⟩, rfl, q _ (I.hok.fresh (Nat.le_refl _))⟩
/-! ### enumerate(list, start=k), enumerate(tuple) -/
def IteK (K : PySem.W.Frag) (a : Addr) (k0 : Int) : It :=
  ⟨fun i H => ∃ (xs : List V) (x : V), SqL K H a xs ∧ xs[i]? = some x, fun i H v H' => ∃ T x, v = .ref T ∧ H T = none ∧ H' = upd H T (.tup [.int (k0 + ((i : Nat) : Int)), x]) ∧ ∀ xs, SqL K H a xs → xs[i]? = some x, fun i H => ∃ xs : List V, SqL K H a xs ∧ xs.length = i⟩
def IteT (K : PySem.W.Frag) (a : Addr) : It :=
  ⟨fun i H => ∃ (xs : List V) (x : V), SqT K H a xs ∧ xs[i]? = some x, fun i H v H' => ∃ T x, v = .ref T ∧ H T = none ∧ H' = upd H T (.tup [.int ((i : Nat) : Int), x]) ∧ ∀ xs, SqT K H a xs → xs[i]? = some x, fun i H => ∃ xs : List V, SqT K H a xs ∧ xs.length = i⟩
theorem turn_enumK {P : Program} {w : World} {K : PySem.W.Frag} {elts : List Expr} {kk : Nat} {tpos : Pos} (a e it : Addr) (k0 : Int) :
    Turn P w K (.Tuple elts kk tpos) (IteK K a k0) [e, it] e (fun i h => (∃ old, IsEnum h e it (k0 + ((i : Nat) : Int)) old) ∧ h.IsListIter it a i ∧ e ≠ it) where
  mem := by simp
  obj := fun i h st b hb => by
    obtain ⟨⟨old, he⟩, ⟨o, ho, hc, hd⟩, _⟩ := st
    have e' : b = e ∨ b = it := by simpa using hb
    rcases e' with z | z
    · rw [z]; exact ⟨_, he, fun v q => nomatch q⟩
    · rw [z]; exact ⟨o, ho, fun v q => by rw [hd] at q; cases q⟩
  keep := fun i h h' st k => let ⟨⟨old, he⟩, hi, hne⟩ := st; ⟨⟨old, k e (by simp) _ he⟩, hi.at fun o q => k it (by simp) o q, hne⟩
  item := by
    intro X hP hw hK hc i pins s σ H E I hf st hg
    subst hP hw hK
    obtain ⟨⟨old, he⟩, hit, hne⟩ := st
    obtain ⟨xs, x, hq, hx⟩ := hg
    obtain ⟨its, rv, p, hz⟩ := I.list hq
    obtain ⟨u, hu, ru⟩ := rv.get hx
    have hel : e < s.heap.objs.size := Heap.lt_size he
    have hil : it < s.heap.objs.size := by obtain ⟨_, q, _⟩ := hit; exact Heap.lt_size q
    have pl := p.isList
    have nea : e ≠ a := ne_cls (T := "enumerate") (T' := "list") ⟨_, he, rfl⟩ pl.typeIs (by decide)
    have nia : a ≠ it := by
      obtain ⟨o, ho, hcl, hd⟩ := hit
      exact ne_cls (T := "list") (T' := "list_iterator") pl.typeIs ⟨o, ho, hcl⟩ (by decide)
    have hlt : i < its.toArray.size := by
      have := (List.getElem?_eq_some_iff.mp hu).1
      rw [List.size_toArray]; exact this
    refine wpAny_pyNext_enum_itemC (Draws.list (prog := X.prog) (w := X.w) (A := X.A.in1) (I.ok.hd hc) it a nia its.toArray) he ⟨hit, pl⟩ hlt hne (by simp [hne, nea]) fun y h' tk hy ho ⟨hit', _⟩ hT hsz hk => ?_
    have ey : y = u := by
      have : its.toArray[i]? = some u := by rw [List.getElem?_toArray]; exact hu
      rw [this] at hy
      exact (Option.some.inj hy).symm
    subst ey
    refine ⟨_, rfl, wpAny_letOwnedTupleGo_enum (s := { s with heap := h', toks := tk + 1 }) ho fun h'' he' sb => ?_⟩
    have hT2 : h''.get? s.heap.objs.size = some { cls := .type "tuple", data := .seq #[.int (k0 + (i : Int)) tk, y] } := (sb.2 _ (Nat.ne_of_gt hel)).trans hT
    have new : ObjOk X.prog X.w (upd H s.heap.objs.size (.tup [.int (k0 + (i : Nat)), x])) h'' s.heap.objs.size (.tup [.int (k0 + (i : Nat)), x]) :=
      ⟨by show 2 ≤ sizeLine; decide, [.int (k0 + (i : Int)) tk, y], .cons ⟨_, rfl⟩ (.cons ru .nil), ⟨_, hT2, rfl, _, rfl⟩⟩
    have I1 : Inv X pins σ (upd H s.heap.objs.size (.tup [.int (k0 + (i : Nat)), x])) { s with heap := h'', toks := tk + 1 } :=
      I.turnedNew (ch := [e, it]) (fun b ob hb q => (sb.2 b (fun z => hb (by simp [z]))).trans (hk b ob (fun z => hb (by simp [z])) (fun z => hb (by simp [z])) q)) hf (Nat.le_refl _) new
    refine ⟨.ref s.heap.objs.size, _, I1, rfl, ⟨_, x, rfl, I.hok.fresh (Nat.le_refl _), rfl, fun ys hy => by rw [I.list_inj hy hq]; exact hx⟩, ⟨⟨y, ?_⟩, hit'.at fun o q => (sb.2 it (Ne.symm hne)).trans q, hne⟩, fun b hb => ?_⟩
    · have e1 : k0 + ((i + 1 : Nat) : Int) = k0 + (i : Int) + 1 := by omega
      rw [e1]; exact he'
    · have hb' : b < s.heap.objs.size := by
        have e' : b = e ∨ b = it := by simpa using hb
        rcases e' with z | z
        · rw [z]; exact hel
        · rw [z]; exact hil
      rw [upd_ne (Nat.ne_of_lt hb')]
      exact (hf b hb).1
  done := by
    intro X hP hw hK hc i pins s σ H E I hf st hg
    subst hP hw hK
    obtain ⟨⟨old, he⟩, hit, hne⟩ := st
    obtain ⟨xs, hq, hx⟩ := hg
    obtain ⟨its, rv, p, hz⟩ := I.list hq
    obtain ⟨f0, f1, f2, f3, f4, f5⟩ := hf it (by simp)
    have hl := rv.length
    have pl := p.isList
    have nia : a ≠ it := by
      obtain ⟨o, ho, hcl, hd⟩ := hit
      exact ne_cls (T := "list") (T' := "list_iterator") pl.typeIs ⟨o, ho, hcl⟩ (by decide)
    subst hx
    exact wpAny_pyNext_enum_endD (i := k0 + (xs.length : Int)) (Draws.list (prog := X.prog) (w := X.w) (A := X.A.in1) (I.ok.hd hc) it a nia its.toArray) he (by rw [List.size_toArray, ← hl]; exact ⟨hit, pl⟩) fun h' eb => ⟨rfl, I.turned (t' := s.toks) (fun b o hb q => eb b o hb q) f0 f1 f3 f4 f5⟩
  self := fun A i s Q E st h => let ⟨⟨_, he⟩, _⟩ := st; wpAny_pyIter_enum he h
theorem turn_enumT {P : Program} {w : World} {K : PySem.W.Frag} {elts : List Expr} {kk : Nat} {tpos : Pos} (a e it : Addr) :
    Turn P w K (.Tuple elts kk tpos) (IteT K a) [e, it] e (fun i h => (∃ old, IsEnum h e it ((i : Nat) : Int) old) ∧ h.IsTupleIter it a i ∧ e ≠ it) where
  mem := by simp
  obj := fun i h st b hb => by
    obtain ⟨⟨old, he⟩, ⟨o, ho, hc, hd⟩, _⟩ := st
    have e' : b = e ∨ b = it := by simpa using hb
    rcases e' with z | z
    · rw [z]; exact ⟨_, he, fun v q => nomatch q⟩
    · rw [z]; exact ⟨o, ho, fun v q => by rw [hd] at q; cases q⟩
  keep := fun i h h' st k => let ⟨⟨old, he⟩, hi, hne⟩ := st; ⟨⟨old, k e (by simp) _ he⟩, hi.at fun o q => k it (by simp) o q, hne⟩
  item := by
    intro X hP hw hK hc i pins s σ H E I hf st hg
    subst hP hw hK
    obtain ⟨⟨old, he⟩, hit, hne⟩ := st
    obtain ⟨xs, x, hq, hx⟩ := hg
    obtain ⟨its, rv, p, hz⟩ := I.tuple hq
    obtain ⟨u, hu, ru⟩ := rv.get hx
    have hel : e < s.heap.objs.size := Heap.lt_size he
    have hil : it < s.heap.objs.size := by obtain ⟨_, q, _⟩ := hit; exact Heap.lt_size q
    have pl : s.heap.IsTuple a its.toArray := p
    have nea : e ≠ a := ne_cls (T := "enumerate") (T' := "tuple") ⟨_, he, rfl⟩ pl.typeIs (by decide)
    have nia : a ≠ it := by
      obtain ⟨o, ho, hcl, hd⟩ := hit
      exact ne_cls (T := "tuple") (T' := "tuple_iterator") pl.typeIs ⟨o, ho, hcl⟩ (by decide)
    have hlt : i < its.toArray.size := by
      have := (List.getElem?_eq_some_iff.mp hu).1
      rw [List.size_toArray]; exact this
    refine wpAny_pyNext_enum_itemC (Draws.tuple (prog := X.prog) (w := X.w) (A := X.A.in1) (I.ok.hd hc) it a nia its.toArray) he ⟨hit, pl⟩ hlt hne (by simp [hne, nea]) fun y h' tk hy ho ⟨hit', _⟩ hT hsz hk => ?_
    have ey : y = u := by
      have : its.toArray[i]? = some u := by rw [List.getElem?_toArray]; exact hu
      rw [this] at hy
      exact (Option.some.inj hy).symm
    subst ey
    refine ⟨_, rfl, wpAny_letOwnedTupleGo_enum (s := { s with heap := h', toks := tk + 1 }) ho fun h'' he' sb => ?_⟩
    have hT2 : h''.get? s.heap.objs.size = some { cls := .type "tuple", data := .seq #[.int (i : Int) tk, y] } := (sb.2 _ (Nat.ne_of_gt hel)).trans hT
    have new : ObjOk X.prog X.w (upd H s.heap.objs.size (.tup [.int (i : Nat), x])) h'' s.heap.objs.size (.tup [.int (i : Nat), x]) :=
      ⟨by show 2 ≤ sizeLine; decide, [.int (i : Int) tk, y], .cons ⟨_, rfl⟩ (.cons ru .nil), ⟨_, hT2, rfl, _, rfl⟩⟩
    have I1 : Inv X pins σ (upd H s.heap.objs.size (.tup [.int (i : Nat), x])) { s with heap := h'', toks := tk + 1 } :=
      I.turnedNew (ch := [e, it]) (fun b ob hb q => (sb.2 b (fun z => hb (by simp [z]))).trans (hk b ob (fun z => hb (by simp [z])) (fun z => hb (by simp [z])) q)) hf (Nat.le_refl _) new
    refine ⟨.ref s.heap.objs.size, _, I1, rfl, ⟨_, x, rfl, I.hok.fresh (Nat.le_refl _), rfl, fun ys hy => by rw [I.tuple_inj hy hq]; exact hx⟩, ⟨⟨y, ?_⟩, hit'.at fun o q => (sb.2 it (Ne.symm hne)).trans q, hne⟩, fun b hb => ?_⟩
    · have e1 : ((i + 1 : Nat) : Int) = (i : Int) + 1 := by omega
      rw [e1]; exact he'
    · have hb' : b < s.heap.objs.size := by
        have e' : b = e ∨ b = it := by simpa using hb
        rcases e' with z | z
        · rw [z]; exact hel
        · rw [z]; exact hil
      rw [upd_ne (Nat.ne_of_lt hb')]
      exact (hf b hb).1
  done := by
    intro X hP hw hK hc i pins s σ H E I hf st hg
    subst hP hw hK
    obtain ⟨⟨old, he⟩, hit, hne⟩ := st
    obtain ⟨xs, hq, hx⟩ := hg
    obtain ⟨its, rv, p, hz⟩ := I.tuple hq
    obtain ⟨f0, f1, f2, f3, f4, f5⟩ := hf it (by simp)
    have hl := rv.length
    have pl : s.heap.IsTuple a its.toArray := p
    have nia : a ≠ it := by
      obtain ⟨o, ho, hcl, hd⟩ := hit
      exact ne_cls (T := "tuple") (T' := "tuple_iterator") pl.typeIs ⟨o, ho, hcl⟩ (by decide)
    subst hx
    exact wpAny_pyNext_enum_endD (i := (xs.length : Int)) (Draws.tuple (prog := X.prog) (w := X.w) (A := X.A.in1) (I.ok.hd hc) it a nia its.toArray) he (by rw [List.size_toArray, ← hl]; exact ⟨hit, pl⟩) fun h' eb => ⟨rfl, I.turned (t' := s.toks) (fun b o hb q => eb b o hb q) f0 f1 f3 f4 f5⟩
  self := fun A i s Q E st h => let ⟨⟨_, he⟩, _⟩ := st; wpAny_pyIter_enum he h
set_option maxHeartbeats 4000000 in
theorem meets_enumerate_newB1 {v : Value} {o : Obj} {H : Heap → Prop} (B : Begins v o H) :
    Meets (Builtin.«enumerate.__new__» ⟨[.type "enumerate", v], []⟩) (fun _ R s => H s.heap ∧
      R (.ok (.ret (.ref (s.heap.push o).objs.size))) { s with heap := (s.heap.push o).push { cls := .type "enumerate", data := .fields #[.none, .bool false, .ref s.heap.objs.size, rawInt 0, .none, .none] } }) :=
  .of_wp fun prog w A R s h => by
    obtain ⟨hp, g, d, tk, os⟩ := s; obtain ⟨h1, h⟩ := h
    have hsub := sub_enumerate
    have q1 : ∀ {A' : Around} {E : Value → Shared → Prop} {Q : Value → Shared → Prop}, Q (.ref hp.objs.size) ⟨hp.push o, g, d, tk, os⟩ → wpAny (model prog w) A' (pyIter v) Q E ⟨hp, g, d, tk, os⟩ :=
      fun q => B.iter prog w _ _ ⟨hp, g, d, tk, os⟩ _ h1 q
    wp_walk using q1
    refine wpAny_stack_any fun st => wpAny_pure ?_
    split
    · rename_i c _ _ _ _ _
      cases (c == Value.type "enumerate")
      · wp_walk using q1
        exact ⟨_, rfl, h⟩
      · wp_walk using q1
        exact ⟨_, rfl, h⟩
    · wp_walk using q1
      exact ⟨_, rfl, h⟩
theorem call_enumerate_tuple {prog : Program} {w : World} {A : Around} {E : Value → Shared → Prop} {s : Shared} {l : Addr} {items : Array Value} {Q : Value → Shared → Prop} (hL : s.heap.IsTuple l items)
    (h : ∀ h', IsEnum h' (s.heap.objs.size + 1) s.heap.objs.size 0 .none → h'.IsTupleIter s.heap.objs.size l 0 → h'.objs.size = s.heap.objs.size + 2 →
      (∀ b o, s.heap.get? b = some o → h'.get? b = some o) → Q (.ref (s.heap.objs.size + 1)) { s with heap := h' }) :
    wpAny (model prog w) A (call (.type "enumerate") [.ref l]) Q E s := by
  refine callType_new PySem.F.called_enumerate (by decide) (PySem.F.typeCall_enumerate_1 _) (PySem.F.newCall_enumerate_1 _) (fun obj => PySem.F.args_object_init_2 obj _) PySem.F.entry_enumerate_new
    (meets_enumerate_newB1 (begins_tuple l items)) ⟨hL, ?_⟩
  have hz : (s.heap.push { cls := .type "tuple_iterator", data := .fields #[.ref l, .int 0 0] }).objs.size = s.heap.objs.size + 1 := Heap.size_push ..
  show _ ∧ _
  rw [hz]
  have he : IsEnum ((s.heap.push { cls := .type "tuple_iterator", data := .fields #[.ref l, .int 0 0] }).push
      { cls := .type "enumerate", data := .fields #[.none, .bool false, .ref s.heap.objs.size, rawInt 0, .none, .none] }) (s.heap.objs.size + 1) s.heap.objs.size 0 .none := by
    have := Heap.get?_push_size (s.heap.push { cls := .type "tuple_iterator", data := .fields #[.ref l, .int 0 0] })
      (o := { cls := .type "enumerate", data := .fields #[.none, .bool false, .ref s.heap.objs.size, rawInt 0, .none, .none] }) rfl
    rw [hz] at this; exact this
  refine ⟨⟨_, he, rfl⟩, h _ he ⟨_, Heap.get?_push_of_some _ (Heap.get?_push_size _ rfl), rfl, rfl⟩ (by rw [Heap.size_push, hz]) fun b o x => Heap.get?_push_of_some _ (Heap.get?_push_of_some _ x)⟩
section
variable {X : Cx}
theorem callWith_typeK {M : Model} {A : Around} {E : Value → Shared → Prop} {s : Shared} {env : Env} {pos : Pos} {id : String} {e : Expr} {rest : List Expr} {kws : List Keyword} {Q : Value → Shared → Prop}
    (h : wpAny M A (spliced (backTo pos (starEach (e :: rest) env))) (fun vs s₁ => wpAny M A (evalAll ((backToKw pos (keywordEach kws env)).map (·.2)))
      (fun kvs s₂ => wpAny M A (call (.type id) vs (((backToKw pos (keywordEach kws env)).filterMap (·.1)).zip kvs)) Q E s₂) E s₁) E s)
    (he : backTo pos (starEach (e :: rest) env) = (false, eval e env) :: backTo pos (starEach rest env) := by rfl)
    (hplain : (backTo pos (starEach (e :: rest) env)).any (·.1) = false := by rfl)
    (hall : (backToKw pos (keywordEach kws env)).all (·.1.isSome) = true := by rfl)
    (hkw : (backToKw pos (keywordEach kws env)).any (·.1.isNone) = false := by rfl) :
    wpAny M A (callWith pos (.type id) [] (backTo pos (starEach (e :: rest) env)) (backToKw pos (keywordEach kws env))) Q E s := by
  have h2 : wpAny M A (evalArgs (.type id) true (backTo pos (starEach (e :: rest) env)) (backToKw pos (keywordEach kws env))) (fun a s₁ => wpAny M A (call (.type id) ([] ++ a.pos) a.kw) Q E s₁) E s := by
    rw [he] at h ⊢
    exact evalArgs_kwB hall h
  unfold callWith
  refine wpAny_bind (wpAny_holding (wpAny_mono h2 (fun a s₁ h₁ => wpAny_bind (wpAny_standAt ?_)) fun _ _ x => x))
  simp only [hplain, hkw, Bool.or_false]
  refine wpAny_bind (wpAny_pure ?_)
  exact wpAny_bind (wpAny_mono h₁ (fun r s₂ hr => wpAny_bind (wpAny_holding (wpAny_point (wpAny_pure hr)))) fun _ _ x => x)
def iEnumK (K : PySem.W.Frag) (ta : TA) (tk : TE) : TI := fun σ H R => ta σ H fun vs H1 => ∃ a xs, vs = [.ref a] ∧ SqL K H1 a xs ∧ tk σ H1 fun v H2 => ∃ k0 : Int, v = .int k0 ∧ -(2 ^ 62) ≤ k0 ∧ k0 < 2 ^ 62 ∧ SqL K H2 a xs ∧ R (IteK K a k0) H2
theorem pi_enumK {e ek : Expr} {ta : TA} {tk : TE} {p pos kpos tpos : Pos} {elts : List Expr} {kk : Nat} (hg : Gl X "enumerate") (hm : X.mg "enumerate" = none) (ha : PA X [e] ta) (hk : PE X ek tk) (hs : backTo pos (starEach [e] X.env) = (false, eval e X.env) :: backTo pos (starEach [] X.env) := by rfl)
    (hpl : (backTo pos (starEach [e] X.env)).any (·.1) = false := by rfl) :
    PI X (.Tuple elts kk tpos) (.Call (.Name "enumerate" p) [e] [⟨some "start", ek, kpos⟩] pos) (iEnumK X.K ta tk) := by
  refine ⟨fun pins s σ H R I h => ?_⟩
  refine wpAny_Call_Name_kw (ld_blt I hg hm (u := .type "enumerate") boot_enumerate ?_ (by decide) (by decide))
  refine callWith_typeK (thn (ha.run pos pins s σ H _ I h) fun us s1 ⟨vs, H1, I1, r1, a, xs, ev, hq, q1⟩ => ?_) hs hpl (by rfl) (by rfl)
  subst ev
  obtain ⟨u, rfl, ru⟩ := vals1 r1
  obtain rfl : u = Value.ref a := ru
  show wpAny _ _ (evalAll ((do let v ← eval ek X.env; standAt pos; pure v) :: [])) _ _ s1
  refine wpAny_evalAll_cons (wpAny_bind (thn (hk.run pins s1 σ H1 _ I1 q1) fun v s2 ⟨y, H2, I2, ry, k0, ey, hk0, hk1, hq2, q2⟩ => wpAny_bind (wpAny_standAt (wpAny_pure (wpAny_evalAll_nil ?_)))))
  subst ey
  obtain ⟨t, rfl⟩ := ry
  obtain ⟨its, rv, p', hz⟩ := I2.list hq2
  show wpAny _ _ (call (.type "enumerate") [.ref a] [(Str.ofString "start", .int k0 t)]) _ _ s2
  refine enum_begins_start (begins_list a its.toArray) p'.isList (by omega) (by omega) fun h' he hit hsz hkk => wpAny_pyIter_enum he ?_
  have I3 : Inv X pins σ H2 { s2 with heap := h' } := I2.kept (t' := s2.toks) hkk
  refine ⟨s2.heap.objs.size + 1, [s2.heap.objs.size + 1, s2.heap.objs.size], _, _, H2, rfl, I3, turn_enumK a (s2.heap.objs.size + 1) s2.heap.objs.size k0, ⟨⟨.none, by simpa using he⟩, ⟨_, hit, rfl, rfl⟩, Nat.succ_ne_self _⟩, fun b hb => ?_, q2⟩
  have hle : s2.heap.objs.size ≤ b := by
    have e' : b = s2.heap.objs.size + 1 ∨ b = s2.heap.objs.size := by simpa using hb
    rcases e' with z | z
    · rw [z]; exact Nat.le_add_right _ _
    · rw [z]; exact Nat.le_refl _
  exact I2.fpOk hle (I2.hok.fresh hle)
def iEnumT (K : PySem.W.Frag) (ta : TA) : TI := fun σ H R => ta σ H fun vs H1 => ∃ a xs, vs = [.ref a] ∧ SqT K H1 a xs ∧ R (IteT K a) H1
theorem pi_enumT {e : Expr} {ta : TA} {p pos tpos : Pos} {elts : List Expr} {kk : Nat} (hg : Gl X "enumerate") (hm : X.mg "enumerate" = none) (ha : PA X [e] ta) (hs : starEach [e] X.env = [(false, eval e X.env)] := by rfl) :
    PI X (.Tuple elts kk tpos) (.Call (.Name "enumerate" p) [e] [] pos) (iEnumT X.K ta) := by
  refine ⟨fun pins s σ H R I h => ?_⟩
  refine Call_ (ld_blt I hg hm boot_enumerate (PyProof.Rows.callWith_type1 (thn (ha.run pos pins s σ H _ I h) fun us s1 ⟨vs, H1, I1, r1, q1⟩ => ?_) hs rfl))
  obtain ⟨a, xs, rfl, hq, q⟩ := q1
  obtain ⟨u, rfl, ru⟩ := vals1 r1
  obtain rfl : u = Value.ref a := ru
  obtain ⟨its, rv, p', hz⟩ := I1.tuple hq
  refine call_enumerate_tuple (show s1.heap.IsTuple a its.toArray from p') fun h' he hit hsz hk => wpAny_pyIter_enum he ?_
  have I2 : Inv X pins σ H1 { s1 with heap := h' } := I1.kept (t' := s1.toks) hk
  refine ⟨s1.heap.objs.size + 1, [s1.heap.objs.size + 1, s1.heap.objs.size], _, _, H1, rfl, I2, turn_enumT a (s1.heap.objs.size + 1) s1.heap.objs.size, ⟨⟨.none, he⟩, hit, Nat.succ_ne_self _⟩, fun b hb => ?_, q⟩
  have hle : s1.heap.objs.size ≤ b := by
    have e' : b = s1.heap.objs.size + 1 ∨ b = s1.heap.objs.size := by simpa using hb
    rcases e' with z | z
    · rw [z]; exact Nat.le_add_right _ _
    · rw [z]; exact Nat.le_refl _
  exact I1.fpOk hle (I1.hok.fresh hle)
end
end Vf

set_option maxRecDepth 100000
set_option maxHeartbeats 4000000
namespace Vf
open PySem PySem.Spec PyProof.Rows L2 SX LamX
/-! ### {k: v}, k a tuple -/
section
variable {X : Cx}
theorem d_dictSetT {pins : List (Addr × Obj)} {σ : L2.St} {H H' : Hp} {s : Shared} {A : Around} {E : Value → Shared → Prop} {a : Addr} {y v : V} {u r : Value} {Q : Unit → Shared → Prop} (hu : A.units < cLine) (I : Inv X pins σ H s)
    (g : ∃ (kvs : List (List Key × V)) (k : List Key) (b : Addr), H a = some (.dT kvs) ∧ y = .ref b ∧ H b = some (.tup (k.map kV)) ∧ kvs.length < sizeLine ∧ H' = upd H a (.dT (putK kvs k v))) (ry : RelV y u) (rv : RelV v r) (h : ∀ s', Inv X pins σ H' s' → Q () s') :
    wpAny (model X.prog X.w) A (dictSet a u r) Q E s := by
  obtain ⟨kvs, k, b, e, ey, eb, l, eH⟩ := g
  subst ey eH
  cases (show u = Value.ref b from ry)
  obtain ⟨z, hd, xs, rel, dd⟩ := dt_of I.hok e
  have hz : xs.length ≤ sizeLine := by rw [← Paired.length rel]; exact z
  have hl : (putK kvs k v).length ≤ sizeLine := by have := length_putK kvs k v; omega
  refine wpAny_dictSet_heap (hsz := hz) (knd := tupleKind (mixKind X.prog X.w)) hu (key_of I.hok eb) dd fun h' dd' hs => h _ ?_
  obtain ⟨q, es, ep, hq, h2, h3, h4, _, h5⟩ := dd'
  refine d_write I (by rw [e]; exact True.intro) hs ⟨q, hq⟩ ⟨hl, hd, _, (rel.put k eb rv).keeps fun c ys ec => ?_, q, es, ep, hq, h2, h3, h4, h5⟩
  rw [upd_ne (ne_of ec e (fun z => nomatch z))]
  exact ec
def tDispT1 (tk tv : TE) : TE := fun σ H Q => ∀ p, H p = none → tk σ (upd H p (.dT [])) fun x H1 => tv σ H1 fun y H2 => ∃ (k : List Key) (b : Addr), H2 p = some (.dT []) ∧ x = .ref b ∧ H2 b = some (.tup (k.map kV)) ∧ Q (.ref p) (upd H2 p (.dT [(k, y)]))
theorem pe_dispT1 {pos : Pos} {k v : Expr} {tk tv : TE} (hu : X.A.units < cLine) (hk : PE X k tk) (hv : PE X v tv) : PE X (.Dict [some k] [v] pos) (tDispT1 tk tv) := by
  refine ⟨fun pins s σ H Q I q => ?_⟩
  have hn := I.hok.fresh (Nat.le_refl s.heap.objs.size)
  have I1 := I.laid (a := s.heap.objs.size) (o := .dT []) (h' := s.heap.push { cls := .type "dict", data := .dict #[] }) (t' := s.toks) (fun _ _ q => Heap.get?_push_of_some _ q) (Nat.le_refl _) (dt_empty s.heap I.big)
  refine wpAny_Dict_any (by rfl) (by rfl) (by simp) (by show 1 ≤ 15; decide) (thn ((pps_cons hk hv (pps_nil (X := X) (pos := pos))).run pins _ σ _ (fun ps H2 => ∃ x y, ps = [(x, y)] ∧ ∃ (k : List Key) (b : Addr), H2 s.heap.objs.size = some (.dT []) ∧ x = .ref b ∧ H2 b = some (.tup (k.map kV)) ∧ Q (.ref s.heap.objs.size) (upd H2 s.heap.objs.size (.dT [(k, y)]))) I1 ?_) fun ws s2 ⟨ps, H2, I2, rel, x, y, eps, kk, b, e, ex, eb, q2⟩ => ?_)
  · have q' := q _ hn
    have mono : ∀ {t : TE} {σ : L2.St} {H : Hp} {Q Q' : VK}, t σ H Q → Q = Q' → t σ H Q' := fun h e => e ▸ h
    show tk σ _ fun x H1 => tv σ H1 fun y H2 => _
    refine mono q' ?_
    funext x H1
    refine congrArg _ ?_
    funext y H2
    refine propext ⟨fun ⟨k, b, h⟩ => ⟨x, y, rfl, k, b, h⟩, fun ⟨x', y', e, k, b, h⟩ => ?_⟩
    cases e
    exact ⟨k, b, h⟩
  · subst eps
    cases rel with
    | cons h t =>
      cases t
      rename_i pr
      obtain ⟨u, r⟩ := pr
      unfold storeAll
      rw [List.forIn_cons]
      refine wpAny_bind (wpAny_bind (d_dictSetT (H' := upd H2 s.heap.objs.size (.dT (putK [] kk y))) (by show X.A.units < cLine; exact hu) I2 ⟨[], kk, b, e, ex, eb, by decide, rfl⟩ h.1 h.2 fun s3 I3 => wpAny_pure ?_))
      show wpAny _ _ (forIn [] PUnit.unit _) _ _ s3
      rw [List.forIn_nil]
      exact wpAny_pure ⟨.ref s.heap.objs.size, _, I3, rfl, q2⟩
end
end Vf

set_option maxRecDepth 100000
set_option maxHeartbeats 4000000
namespace Vf
open PySem PySem.Spec PyProof.Rows L2 SX LamX
/-! ### len(o) by an own __len__ -/
structure OwnM (K : PySem.W.Frag) (C : Addr) (m : Str) (f : Addr) : Prop where
  hs : PySem.W.findIn K (.ref C) m = some (some (.ref f))
  hf : PySem.W.isFn K (.ref f) = true
section
variable {X : Cx} {C f : Addr} {fd : FuncData} {ps : List Str} {k j : Nat} {sp : Sp}
def rLenO (C : Addr) (sp : Sp) : List V → Hp → VK → Prop := fun xs H Q => ∃ (a dx : Addr) (fs : List (Str × V)), xs = [.ref a] ∧ H a = some (.ins C dx fs) ∧ sp [.ref a] H (fun v H' => ∃ n : Nat, v = .int (n : Int) ∧ n < 1000000 ∧ Q (.int (n : Int)) H') (fun _ _ _ => False)
theorem call_lenO (O : OwnM X.K C "__len__" f) (F : FnOk X.prog X.w X.K X.mg X.base C8.CX0 k f fd ps sp) (hb : Binds X.K fd ps []) (hr : Room j X.A) (hj : k + 1 ≤ j) : CallR X (.builtin "len") (rLenO C sp) := by
  intro pins s σ H xs us Q I r h
  obtain ⟨a, dx, fs, rfl, ha, hsp⟩ := h
  obtain ⟨u, rfl, ru⟩ := vals1 r
  cases ru
  obtain ⟨mA, J, _⟩ := ins_get I.hok ha
  obtain ⟨od, J, _⟩ := J.look
  have e0 : Env0 X.prog X.w X.K X.mg X.base X.A.in1 X.stack s H := by
    have e := I.env0
    exact ⟨e.frames, e.mod, e.bs, e.bsz, e.funs, e.frf, e.hok, e.bare⟩
  have hl := F.len _ _ _ _ hsp
  have run := F.run X.A.in1 X.stack s H ⟨[.ref a], []⟩ [.ref a] [.ref a] _ (fun _ _ _ => False) ((hr.mono hj).in1) e0 (by
    have := hb s [.ref a] I.kIn (by simpa using hl)
    simpa using this) (.cons rfl .nil) hsp
  refine Calls.call_function_entry kind_len plain_len entry_len (args_len1 _) ?_
  unfold Builtin.«len»
  refine wpAny_bind (m := oneArg "len" _) (wpAny_pure ?_)
  refine wpAny_bind (m := callSpecial? (.ref a) (Str.ofString "__len__")) (PySem.W.special_fn (name := "__len__") (args := []) I.kIn J O.hs (beq_iff_eq.mp O.hf) (wpAny_call (codeAny_mono run fun z s' hz => ?_)))
  cases z with
  | error e => exact pass0 _ _ _ _ _ _ I hz
  | ok fl =>
    cases fl with
    | ret u =>
      obtain ⟨v, H', I1, rv, n, rfl, hn, q⟩ := I.after hz
      obtain ⟨t, rfl⟩ := rv
      refine wpAny_bind (wpAny_holding (wpAny_pure ?_))
      refine wpAny_bind (wpAny_letGo ?_)
      show wpAny _ _ (if (n : Int) < 0 then _ else _) _ _ _
      rw [if_neg (by omega)]
      show wpAny _ _ (if (n : Int) ≥ 2 ^ 63 then _ else _) _ _ _
      rw [if_neg (by omega)]
      refine wpAny_bind (wpAny_mkInt (wpAny_pure ⟨_, rfl, .int (n : Int), H', I1.tok _, ⟨_, rfl⟩, q⟩))
    | next => exact False.elim hz
    | brk => exact False.elim hz
    | cont => exact False.elim hz
end
/-! ### for x in o by an own __iter__ that returns iter(self.f), a tuple -/
/-- at it an iterator over the tuple at l, the next place is i -/
def tiObj (l : Addr) (i : Nat) : Obj := { cls := .type "tuple_iterator", data := .fields #[.ref l, .int (i : Int) 0] }
def ItT (l it : Addr) (i : Nat) : HO := .ext fun h => h.get? it = some (tiObj l i)
theorem itT_ok {P : Program} {w : World} {H : Hp} {h : Heap} {l it : Addr} {i : Nat} (e : h.get? it = some (tiObj l i)) : ObjOk P w H h it (ItT l it i) := ⟨e, ⟨_, e⟩, fun h1 h2 q k => k _ q⟩
section
variable {X : Cx}
def rIterT (K : PySem.W.Frag) (n : Nat) : List V → Hp → VK → Prop := fun xs H Q => ∃ (l : Addr) (zs : List V), xs = [.ref l] ∧ SqT K H l zs ∧ ∀ it, H it = none → n ≤ it → Q (.ref it) (upd H it (ItT l it 0))
theorem call_iterT : CallR X (.builtin "iter") (rIterT X.K X.s_0.heap.objs.size) := by
  intro pins s σ H xs us Q I r h
  obtain ⟨l, zs, rfl, hq, q⟩ := h
  obtain ⟨u, rfl, ru⟩ := vals1 r
  cases ru
  obtain ⟨its, rv, pl, hz⟩ := I.tuple hq
  refine Calls.call_function_entry (by decide +kernel) (by decide +kernel) PySem.W.kdk_entry_iter (PySem.W.kdk_args_iter _) ?_
  unfold Builtin.«iter»
  refine wpAny_bind (m := someArgs "iter" 1 2 _) (wpAny_of_eq (a := [Value.ref l]) (by first | rfl | kernel_rfl!) ?_)
  show wpAny _ _ (pyIter (.ref l) >>= _) _ _ _
  refine wpAny_bind (wpAny_pyIter_tuple (show s.heap.IsTuple l its.toArray from pl) ?_)
  refine wpAny_pure ⟨_, rfl, ?_⟩
  exact ⟨.ref s.heap.objs.size, _, I.laid (t' := s.toks) (fun b u e => Heap.get?_push_of_some _ e) (Nat.le_refl _) (itT_ok (Heap.get?_push_size _ rfl)), rfl, q _ (I.hok.fresh (Nat.le_refl _)) I.sz⟩
end
/-- a def with a promise that knows how large the heap was when it was called -/
structure FnN (P : Program) (w : World) (K : PySem.W.Frag) (mg : Str → Option Value) (base : Heap) (k : Nat) (f : Addr) (fd : FuncData) (ps : List Str) (sp : Nat → Sp) : Prop where
  len : ∀ n vs H Q E, sp n vs H Q E → vs.length = ps.length
  run : ∀ (A : Around) (outer : List Env) (s : Shared) (H : Hp) (args : Args) (us : List Value) (vs : List V) (Q : VK), Room k A → Env0 P w K mg base A outer s H → BindsTo s fd args (ps.zip us) → Vals vs us → sp s.heap.objs.size vs H Q noE →
    codeAny (model P w) A (.call (.ref f) args) (CR C8.CX0 outer P w H s Q noE) s
theorem fnN_of {P : Program} {w : World} {K : PySem.W.Frag} {mg : Str → Option Value} {base : Heap} {x q : Str} {st : Stmt} {f : Addr} {fd : FuncData} {N ps : List Str} {k : Nat} {sp : Nat → Sp} (F : C8.Fun K x q st f fd)
    (S : FnScope N ps (C8.fnScope st)) (len : ∀ n vs H Q E, sp n vs H Q E → vs.length = ps.length)
    (hb : ∀ (c : Value) (A : Around) (out : List Env) (s : Shared) (H : Hp) (vs : List V) (Q : VK), Room k (A.deeper (envOfC q (C8.fnScope st) s.heap.objs.size f c)) → sp s.heap.objs.size vs H Q noE →
      ∃ t, PSs (cxOf C8.CX0 P w K mg base N q (C8.fnScope st) f c A out s H noE).nox (C8.fnBody st) t ∧ t { nx := fun _ h => Q .non h, rt := Q } (start N vs) H) :
    FnN P w K mg base (k + 1) f fd ps sp := by
  obtain ⟨oc, od, dV, kV, dc, pm, an, c, ct, sl, rfl, lk, hc⟩ := F.ex
  refine ⟨len, fun A out s H g us vs Q hr e0 hbind r hsp => ?_⟩
  have hn := len _ _ _ _ _ hsp
  have KX : K.In s.heap := e0.mod.kin.keeps fun _ _ z => keeps_of e0 z
  have lim := e0.mod.nolimit.keeps (h' := s.heap) fun _ _ z => keeps_of e0 z
  refine codeAny_call_function hr.depth (KX _ _ lk) rfl S.co S.gen rfl (PySem.W.codeRec_of KX hc) (hbind _ _ _ _ ?_)
  refine wpAny_newFunctionEnv_cells S.kind (fun y hy => ?_) fun env he s1 x1 => ?_
  · rcases S.par y.1 (List.of_mem_zip hy).1 with z | z
    · exact Or.inl z
    · exact Or.inr ⟨z, PySem.W.cellsFrom_some _ _ _ (Or.inl z)⟩
  · subst he
    refine ⟨lim.keeps x1.toInCall.keep, codeAny_func ?_⟩
    obtain ⟨t, ht, hq⟩ := hb c A out s H vs Q (hr.deeper _) hsp
    refine wpAny_mono (ht.nox.run [] s1 (start N vs) H _ (inv_start S hr.hd e0 hn r x1) hq) (fun fl s' hs => ?_) (fun _ _ hs => hs)
    rcases fl with u | _ | _ | _
    all_goals first
      | exact (by obtain ⟨v, σ', H', J, rv, z⟩ := hs; exact ⟨v, H', J.os, J.bare, J.base, J.hok, rv, z⟩)
      | exact (by obtain ⟨σ', H', J, z⟩ := hs; exact ⟨V.non, H', J.os, J.bare, J.base, J.hok, rfl, z⟩)
      | exact (by obtain ⟨_, _, _, z⟩ := hs; exact z.elim)
def spIterT (K : PySem.W.Frag) (C : Addr) (g : Str) : Nat → Sp := fun n vs H Q _ => ∃ (a dx t : Addr) (fs : List (Str × V)) (xs : List V), vs = [.ref a] ∧ H a = some (.ins C dx fs) ∧ fs.lookup g = some (.ref t) ∧ SqT K H t xs ∧ ∀ it, H it = none → n ≤ it → Q (.ref it) (upd H it (ItT t it 0))
section
variable {X : Cx} {C f : Addr} {fd : FuncData} {ps : List Str} {k j : Nat} {g : Str} {tg : Expr}
/-- for x in o -/
def iOwnT (K : PySem.W.Frag) (C : Addr) (g : Str) (te : TE) : TI := fun σ H R => te σ H fun v H1 => ∃ (a dx t : Addr) (fs : List (Str × V)) (xs : List V), v = .ref a ∧ H1 a = some (.ins C dx fs) ∧ fs.lookup g = some (.ref t) ∧ SqT K H1 t xs ∧ R (Itt K t) H1
theorem pi_ownT {e : Expr} {te : TE} (he : PE X e te) (O : OwnM X.K C "__iter__" f) (F : FnN X.prog X.w X.K X.mg X.base k f fd ps (spIterT X.K C g)) (hb : Binds X.K fd ps []) (hr : Room j X.A) (hj : k ≤ j) : PI X tg e (iOwnT X.K C g te) := by
  refine ⟨fun pins s σ H R I h => ?_⟩
  refine thn (he.run pins s σ H _ I h) fun v s1 ⟨x, H1, I1, r1, a, dx, t, fs, xs, ex, ha, hg, hq, q⟩ => ?_
  subst ex
  cases r1
  obtain ⟨mA, J, _⟩ := ins_get I1.hok ha
  obtain ⟨od, J, _⟩ := J.look
  obtain ⟨m, hF⟩ := I1.fr
  have hsp : spIterT X.K C g s1.heap.objs.size [.ref a] H1 (fun v H' => ∃ it, v = .ref it ∧ H1 it = none ∧ s1.heap.objs.size ≤ it ∧ H' = upd H1 it (ItT t it 0)) noE := ⟨a, dx, t, fs, xs, rfl, ha, hg, hq, fun it h1 h2 => ⟨it, rfl, h1, h2, rfl⟩⟩
  have hl := F.len _ _ _ _ _ hsp
  refine PySem.W.owit_iter hF I1.ok.mod.kin J O.hs O.hf ?_
  have run := F.run X.A X.stack s1 H1 ⟨[.ref a], []⟩ [.ref a] [.ref a] _ (hr.mono hj) I1.env0 (by
    have := hb s1 [.ref a] I1.kIn (by simpa using hl)
    simpa using this) (.cons rfl .nil) hsp
  refine wpAny_call (codeAny_mono run fun z s' hz => ?_)
  cases z with
  | error e => exact pass0 _ _ _ _ _ _ I1 hz
  | ok fl =>
    cases fl with
    | ret u =>
      obtain ⟨v, H', I2, rv, it, rfl, hn, hle, eH⟩ := I1.after hz
      subst eH
      obtain rfl : u = Value.ref it := rv
      have ho : s'.heap.get? it = some (tiObj t 0) := (I2.hok it _ upd_same).1
      have hit : s'.heap.IsTupleIter it t 0 := ⟨_, ho, rfl, rfl⟩
      unfold PySem.W.OwitIt
      refine wpAny_specialOf (name := Str.ofString "__next__") hit.typeIs PySem.F.slot_tuple_iterator_next.lookup ?_
      have e2 : upd H1 it (ItT t it 0) it = some (.ext fun h => h.get? it = some (tiObj t 0)) := upd_same
      have hy : X.s_0.heap.objs.size ≤ it := Nat.le_trans I1.sz hle
      have I3 := ItX.inv_drop I2 e2
      have fp := ItX.inv_fp I2 e2 hy
      rw [ItX.dropH_upd hn] at I3 fp
      refine ⟨it, [it], _, _, H1, rfl, I3, turn_tuple t it, hit, fun b hb => ?_, q⟩
      have e : b = it := by simpa using hb
      rw [e]
      exact fp
    | next => exact False.elim hz
    | brk => exact False.elim hz
    | cont => exact False.elim hz
end
end Vf

set_option maxRecDepth 100000
set_option maxHeartbeats 4000000
namespace Vf
open PySem PySem.Spec PyProof.Rows L2 SX LamX
/-! ### C(e, ..) whose __init__ may raise -/
structure MakX (P : Program) (w : World) (K : PySem.W.Frag) (mg : Str → Option Value) (base : Heap) (k : Nat) (x : Str) (C : Addr) (sp : Sp) : Prop where
  ex : ∃ (f : Addr) (fd : FuncData) (ps : List Str), Mk K C f ∧ FnOk P w K mg base (L2.CX P w) k f fd ps sp ∧ mg x = some (.ref C) ∧ Binds K fd ps []
theorem makX {P : Program} {w : World} {K : PySem.W.Frag} {mg : Str → Option Value} {base : Heap} {x qual : Str} {C : Addr} {st : Stmt} {f : Addr} {fd : FuncData} {N ps : List Str} {k : Nat} {sp : Sp} (M : Mk K C f) (hm : mg x = some (.ref C)) (F : C8.Fun K "__init__" qual st f fd) (b : Binds K fd ps []) (S : FnScope N ps (C8.fnScope st)) (len : ∀ vs H Q E, sp vs H Q E → vs.length = ps.length)
    (hb : ∀ (c : Value) (A : Around) (outer : List Env) (s : Shared) (H : Hp) (vs : List V) (Q : VK) (E : XK), Room k (A.deeper (envOfC qual (C8.fnScope st) s.heap.objs.size f c)) → sp vs H Q E →
      ∃ t, PSs (cxOf (L2.CX P w) P w K mg base N qual (C8.fnScope st) f c A outer s H E) (C8.fnBody st) t ∧ t { nx := fun _ h => Q .non h, rt := Q } (start N vs) H) : MakX P w K mg base (k + 1) x C sp :=
  ⟨f, fd, ps, M, fnX F S len hb, hm, b⟩
section
variable {X : Cx} {k j : Nat} {x : Str} {C f : Addr} {fd : FuncData} {ps : List Str} {sp : Sp} {p pos : Pos} {e : Expr} {es : List Expr} {t : TA} {W : WX} {CX : CXT} {E : XK}
theorem run_makeS {pins : List (Addr × Obj)} {σ : L2.St} {H : Hp} {s : Shared} {Q : VK} {us : List Value} {vs : List V} (M : Mk X.K C f) (F : FnOk X.prog X.w X.K X.mg X.base CX k f fd ps sp) (hr : Room (k + 1) X.A) (hb : Binds X.K fd ps [])
    (hx : PassesAt CX X σ E) (I : Inv X pins σ H s) (r : Vals vs us)
    (h : ∀ x dx, H x = none → H dx = none → dx ≠ x → sp (.ref x :: vs) (upd (upd H dx (.own x)) x (.ins C dx [])) (fun v H2 => v = .non ∧ Q (.ref x) H2) E) :
    wpAny (model X.prog X.w) X.A (call (.ref C) us) (EP X pins σ Q) X.xe s := by
  have hq := h (s.heap.objs.size + 1) s.heap.objs.size (I.hok.fresh (Nat.le_succ _)) (I.hok.fresh (Nat.le_refl _)) (Nat.ne_of_lt (Nat.lt_succ_self _))
  have I2 := Inv.made (C := C) I
  have r2 : Vals (V.ref (s.heap.objs.size + 1) :: vs) (Value.ref (s.heap.objs.size + 1) :: us) := .cons rfl r
  have hl : (Value.ref (s.heap.objs.size + 1) :: us).length = ps.length := by
    have e := r2.length
    rw [F.len _ _ _ _ hq] at e
    exact e.symm
  refine wpAny_call (make_map (f := f) I.kIn M.makes M.init (beq_iff_eq.mp M.fn) (codeAny_mono (F.run _ X.stack _ _ ⟨Value.ref (s.heap.objs.size + 1) :: us, []⟩ (Value.ref (s.heap.objs.size + 1) :: us) _ _ E (hr.make C us [])
    (I2.env0.make C us []) (by
      have := hb ⟨_, _, _, _, _⟩ (Value.ref (s.heap.objs.size + 1) :: us) I2.kIn (by rw [List.append_nil]; exact hl)
      simpa using this) r2 hq) fun r s' hq' => ?_))
  cases r with
  | error e => exact hx pins _ _ e s' I2 hq'
  | ok fl =>
    cases fl with
    | ret u =>
      obtain ⟨v, H', I3, rv, ev, q3⟩ := I2.after hq'
      subst ev
      exact ⟨rv, ⟨V.ref (s.heap.objs.size + 1), H', I3, rfl, q3⟩⟩
    | next => exact False.elim hq'
    | brk => exact False.elim hq'
    | cont => exact False.elim hq'
def tMakeS (C : Addr) (sp : Sp) (E : L2.St → XK) (t : TA) : TE := fun σ H Q => t σ H fun vs H1 => ∀ x dx, H1 x = none → H1 dx = none → dx ≠ x → sp (.ref x :: vs) (upd (upd H1 dx (.own x)) x (.ins C dx [])) (fun v H2 => v = .non ∧ Q (.ref x) H2) (E σ)
theorem pe_mkX (c : MakX X.prog X.w X.K X.mg X.base k x C sp) (hr : Room j X.A) (hk : k + 1 ≤ j) (hg : Gl X x) (tk : Takes X W) (ha : PA X (e :: es) t)
    (hdb : (x == ("__debug__" : Str)) = false := by decide) (he : starEach (e :: es) X.env = (false, eval e X.env) :: starEach es X.env := by rfl) (hpl : (backTo pos (starEach es X.env)).any (·.1) = false := by rfl) :
    PE X (.Call (.Name x p) (e :: es) [] pos) (tMakeS C sp (WE W) t) := by
  obtain ⟨f, fd, ps, M, F, hm, b⟩ := c.ex
  refine ⟨fun pins s σ H Q I h => ?_⟩
  refine wpAny_Call_Name_kw (ld_glob I hg hm ?_ hdb)
  refine PySem.W.callWith_K (h₀ := X.base) I.ok.mod.kin M.kp (thn (ha.run pos pins s σ H _ I h) fun us s1 ⟨vs, H1, I1, r, q⟩ => ⟨I1.kIn, ?_⟩) he hpl
  exact run_makeS M F (hr.mono hk) b (passAt tk σ) I1 r q
theorem pe_mkX0 (c : MakX X.prog X.w X.K X.mg X.base k x C sp) (hr : Room j X.A) (hk : k + 1 ≤ j) (hg : Gl X x) (ha : PA X (e :: es) t)
    (hdb : (x == ("__debug__" : Str)) = false := by decide) (he : starEach (e :: es) X.env = (false, eval e X.env) :: starEach es X.env := by rfl) (hpl : (backTo pos (starEach es X.env)).any (·.1) = false := by rfl) :
    PE X (.Call (.Name x p) (e :: es) [] pos) (tMake C sp [] E0 t) := by
  obtain ⟨f, fd, ps, M, F, hm, b⟩ := c.ex
  exact pe_make M F (hr.mono hk) hg hm b .nil passL ha hdb he hpl
end
end Vf

set_option maxRecDepth 100000
set_option maxHeartbeats 4000000
namespace Vf
open PySem PySem.Spec PyProof.Rows L2 SX LamX
/-! ### a dict with tuples as keys, tracked or written ones, whatever its values -/
abbrev Ent : Type := List Key × Addr × Value
def DX (P : Program) (w : World) (a : Addr) (xs : List Ent) : HO := .ext fun h => (a == sysModules) = false ∧ ∃ o es ep, h.get? a = some o ∧ o.ExactDict ∧ o.data = .dict es ep ∧ es.toList = xs.map (entryOfKey (tupleKind (mixKind P w))) ∧ (xs.map (·.1)).Nodup
def EntsAt (K : PySem.W.Frag) (H : Hp) (xs : List Ent) : Prop := ∀ q ∈ xs, SqT K H q.2.1 (q.1.map kV)
theorem dx_ok {P : Program} {w : World} {H : Hp} {h : Heap} {a : Addr} {xs : List Ent} (n : (a == sysModules) = false) (e : ∃ o es ep, h.get? a = some o ∧ o.ExactDict ∧ o.data = .dict es ep ∧ es.toList = xs.map (entryOfKey (tupleKind (mixKind P w))) ∧ (xs.map (·.1)).Nodup) : ObjOk P w H h a (DX P w a xs) := by
  refine ⟨⟨n, e⟩, ?_, fun h1 h2 q k => ?_⟩
  · obtain ⟨o, _, _, ho, _⟩ := e; exact ⟨o, ho⟩
  · obtain ⟨n, o, es, ep, ho, r⟩ := q
    exact ⟨n, o, es, ep, k o ho, r⟩
theorem key_seq {X : Cx} {pins : List (Addr × Obj)} {σ : L2.St} {H : Hp} {s : Shared} {b : Addr} {ks : List Key} (I : Inv X pins σ H s) (e : SqT X.K H b (ks.map kV)) : (tupleKind (mixKind X.prog X.w)).is s.heap ks b := by
  obtain ⟨its, r, p, hz⟩ := I.tuple e
  obtain ⟨o, h1, h2, n, h3⟩ := (show s.heap.IsTuple b its.toArray from p)
  exact ⟨o, its.toArray, n, h1, h2, h3, by simpa using items_are r⟩
section
variable {X : Cx}
theorem dx_dict {pins : List (Addr × Obj)} {σ : L2.St} {H : Hp} {s : Shared} {a : Addr} {xs : List Ent} (I : Inv X pins σ H s) (h : H a = some (DX X.prog X.w a xs)) (hx : EntsAt X.K H xs) : (a == sysModules) = false ∧ s.heap.DictOfH (tupleKind (mixKind X.prog X.w)) a xs := by
  obtain ⟨⟨n, o, es, ep, h1, h2, h3, h4, h5⟩, _⟩ := (show ObjOk X.prog X.w H s.heap a (DX X.prog X.w a xs) from I.hok a _ h)
  exact ⟨n, o, es, ep, h1, h2, h3, h4, fun x hx' => key_seq I (hx x hx'), h5⟩
theorem ents_stored {K : PySem.W.Frag} {H : Hp} {xs : List Ent} {k : List Key} {b : Addr} {u : Value} (h : EntsAt K H xs) (hb : SqT K H b (k.map kV)) : EntsAt K H (storedH xs k b u) := fun q hq => by
  rcases mem_storedH_key hq with ⟨y, hy, e1, e2⟩ | ⟨e1, e2⟩
  · rw [e1, e2]; exact h y hy
  · rw [e1, e2]; exact hb
/-- no code object stands there -/
def NoCode (H : Hp) (a : Addr) : Prop := ∀ c q, H c = some (CodeO c q) → c ≠ a
theorem dx_nocode {pins : List (Addr × Obj)} {σ : L2.St} {H : Hp} {s : Shared} {a : Addr} {xs : List Ent} (I : Inv X pins σ H s) (h : H a = some (DX X.prog X.w a xs)) : NoCode H a := fun c q e z => by
  obtain ⟨⟨_, o, es, ep, h1, _, h3, _⟩, _⟩ := (show ObjOk X.prog X.w H s.heap a (DX X.prog X.w a xs) from I.hok a _ h)
  obtain ⟨⟨oc, vs, t, g1, g2, _⟩, _⟩ := (show ObjOk X.prog X.w H s.heap c (CodeO c q) from I.hok c _ e)
  rw [z, h1] at g1
  cases g1
  rw [h3] at g2
  cases g2
/-- {k: v} -/
def tDispX (P : Program) (w : World) (K : PySem.W.Frag) (tk tv : TE) : TE := fun σ H Q => ∀ p, H p = none → tk σ (upd H p (DX P w p [])) fun x H1 => tv σ H1 fun y H2 => ∃ (k : List Key) (b : Addr), H2 p = some (DX P w p []) ∧ x = .ref b ∧ SqT K H2 b (k.map kV) ∧ ∀ u : Value, NoCode H2 p → Q (.ref p) (upd H2 p (DX P w p [(k, b, u)]))
theorem pe_dispX {pos : Pos} {k v : Expr} {tk tv : TE} (hu : X.A.units < cLine) (hk : PE X k tk) (hv : PE X v tv) : PE X (.Dict [some k] [v] pos) (tDispX X.prog X.w X.K tk tv) := by
  refine ⟨fun pins s σ H Q I q => ?_⟩
  have hn := I.hok.fresh (Nat.le_refl s.heap.objs.size)
  have big : (s.heap.objs.size == sysModules) = false := beq_eq_false_iff_ne.mpr (Ne.symm (Nat.ne_of_lt I.big))
  have I1 : Inv X pins σ (upd H s.heap.objs.size (DX X.prog X.w s.heap.objs.size [])) { s with heap := s.heap.push { cls := .type "dict", data := .dict #[] } } := I.laid (a := s.heap.objs.size) (o := DX X.prog X.w s.heap.objs.size []) (h' := s.heap.push { cls := .type "dict", data := .dict #[] }) (t' := s.toks) (fun _ _ q => Heap.get?_push_of_some _ q) (Nat.le_refl _) (dx_ok big ⟨_, #[], 0, Heap.get?_push_size _ rfl, ⟨rfl, rfl, rfl⟩, rfl, rfl, List.nodup_nil⟩)
  refine wpAny_Dict_any (by rfl) (by rfl) (by simp) (by show 1 ≤ 15; decide) (thn ((pps_cons hk hv (pps_nil (X := X) (pos := pos))).run pins _ σ _ (fun ps H2 => ∃ x y, ps = [(x, y)] ∧ ∃ (k : List Key) (b : Addr), H2 s.heap.objs.size = some (DX X.prog X.w s.heap.objs.size []) ∧ x = .ref b ∧ SqT X.K H2 b (k.map kV) ∧ ∀ u : Value, NoCode H2 s.heap.objs.size → Q (.ref s.heap.objs.size) (upd H2 s.heap.objs.size (DX X.prog X.w s.heap.objs.size [(k, b, u)]))) I1 ?_) fun ws s2 ⟨ps, H2, I2, rel, x, y, eps, kk, b, e, ex, eb, q2⟩ => ?_)
  · have q' := q _ hn
    have mono : ∀ {t : TE} {σ : L2.St} {H : Hp} {Q Q' : VK}, t σ H Q → Q = Q' → t σ H Q' := fun h e => e ▸ h
    show tk σ _ fun x H1 => tv σ H1 fun y H2 => _
    refine mono q' ?_
    funext x H1
    refine congrArg _ ?_
    funext y H2
    refine propext ⟨fun ⟨k, b, h⟩ => ⟨x, y, rfl, k, b, h⟩, fun ⟨x', y', e, k, b, h⟩ => ?_⟩
    cases e
    exact ⟨k, b, h⟩
  · subst eps
    subst ex
    obtain ⟨⟨u, r⟩, rfl, h1, h2⟩ : ∃ p : Value × Value, ws = [p] ∧ RelV (.ref b) p.1 ∧ RelV y p.2 := by
      cases rel with
      | cons h t =>
        cases t
        exact ⟨_, rfl, h.1, h.2⟩
    obtain rfl : u = Value.ref b := h1
    obtain ⟨hd, dd⟩ := dx_dict I2 e (fun _ z => nomatch z)
    unfold storeAll
    rw [List.forIn_cons]
    refine wpAny_bind (wpAny_bind (wpAny_dictSet_heap (hsz := Nat.zero_le _) (knd := tupleKind (mixKind X.prog X.w)) (by show X.A.units < cLine; exact hu) (key_seq I2 eb) dd fun h' dd' hs => wpAny_pure ?_))
    show wpAny _ _ (forIn [] PUnit.unit _) _ _ _
    rw [List.forIn_nil]
    refine wpAny_pure ?_
    obtain ⟨q3, es, ep, hq, k2, k3, k4, _, k5⟩ := dd'
    exact ⟨.ref s.heap.objs.size, _, d_write I2 (by rw [e]; exact True.intro) hs ⟨q3, hq⟩ (dx_ok (xs := [(kk, b, r)]) hd ⟨q3, es, ep, hq, k2, k3, k4, k5⟩), rfl, q2 r (dx_nocode I2 e)⟩
/-- d[k] = v -/
def sDPutX (P : Program) (w : World) (K : PySem.W.Frag) (td tk tv : TE) : TS := fun D σ H => tv σ H fun v H1 => td σ H1 fun x H2 => tk σ H2 fun y H3 => ∃ (a : Addr) (xs : List Ent) (k : List Key) (b : Addr), x = .ref a ∧ H3 a = some (DX P w a xs) ∧ EntsAt K H3 xs ∧ y = .ref b ∧ SqT K H3 b (k.map kV) ∧ xs.length ≤ sizeLine ∧ ∀ u : Value, NoCode H3 a → D.nx σ (upd H3 a (DX P w a (storedH xs k b u)))
theorem ps_dputX {o i value : Expr} {td tk tv : TE} {pos pos' : Pos} (hu : X.A.units + 1 < cLine) (ho : PE X o td) (hi : PE X i tk) (hv : PE X value tv) (hs : swapsWith value (some (.Subscript o i pos')) pos.line X.env = pure false) :
    PS X (.Assign [.Subscript o i pos'] value pos) (sDPutX X.prog X.w X.K td tk tv) := by
  refine ⟨fun pins s σ H D I h => ?_⟩
  refine wpAny_Assign_Subscript (thn (hv.run pins s σ H _ I h) fun r s1 ⟨v, H1, I1, rv, q1⟩ => thn (ho.run pins s1 σ H1 _ I1 q1) fun u s2 ⟨x, H2, I2, rx, q2⟩ => thn (hi.run pins s2 σ H2 _ I2 q2) fun iv s3 ⟨y, H3, I3, ry, a, xs, k, b, ex, e, hx, ey, eb, hz, q3⟩ => ?_) hs
  subst ex ey
  obtain rfl : u = Value.ref a := rx
  obtain rfl : iv = Value.ref b := ry
  obtain ⟨hd, dd⟩ := dx_dict I3 e hx
  refine wpAny_setItem_heap (hsz := hz) (tupleKind_room_in1 hu) (key_seq I3 eb) dd fun h' dd' hs' => ?_
  obtain ⟨q, es, ep, hq, h2, h3, h4, _, h5⟩ := dd'
  exact ⟨σ, _, d_write I3 (by rw [e]; exact True.intro) hs' ⟨q, hq⟩ (dx_ok hd ⟨q, es, ep, hq, h2, h3, h4, h5⟩), q3 r (dx_nocode I3 e)⟩
end
theorem pe_dispXK {X : Cx} {P : Program} {w : World} {K : PySem.W.Frag} {pos : Pos} {k v : Expr} {tk tv : TE} (hP : X.prog = P) (hw : X.w = w) (hK : X.K = K) (hu : X.A.units < cLine) (hk : PE X k tk) (hv : PE X v tv) : PE X (.Dict [some k] [v] pos) (tDispX P w K tk tv) := by
  subst hP hw hK
  exact pe_dispX hu hk hv
theorem ps_dputXK {X : Cx} {P : Program} {w : World} {K : PySem.W.Frag} {o i value : Expr} {td tk tv : TE} {pos pos' : Pos} (hP : X.prog = P) (hw : X.w = w) (hK : X.K = K) (hu : X.A.units + 1 < cLine) (ho : PE X o td) (hi : PE X i tk) (hv : PE X value tv) (hs : swapsWith value (some (.Subscript o i pos')) pos.line X.env = pure false) :
    PS X (.Assign [.Subscript o i pos'] value pos) (sDPutX P w K td tk tv) := by
  subst hP hw hK
  exact ps_dputX hu ho hi hv hs
/-! ### own len and iter, told once -/
structure LenC (P : Program) (w : World) (K : PySem.W.Frag) (mg : Str → Option Value) (base : Heap) (k : Nat) (C : Addr) (sp : Sp) : Prop where
  ex : ∃ (f : Addr) (fd : FuncData) (ps : List Str), OwnM K C "__len__" f ∧ FnOk P w K mg base C8.CX0 k f fd ps sp ∧ Binds K fd ps []
structure OitC (P : Program) (w : World) (K : PySem.W.Frag) (mg : Str → Option Value) (base : Heap) (k : Nat) (C : Addr) (g : Str) : Prop where
  ex : ∃ (f : Addr) (fd : FuncData) (ps : List Str), OwnM K C "__iter__" f ∧ FnN P w K mg base k f fd ps (spIterT K C g) ∧ Binds K fd ps []
section
variable {X : Cx} {C : Addr} {k j : Nat} {sp : Sp} {g : Str} {tg e : Expr} {te : TE}
theorem call_lenC (L : LenC X.prog X.w X.K X.mg X.base k C sp) (hr : Room j X.A) (hj : k + 1 ≤ j) : CallR X (.builtin "len") (rLenO C sp) := by
  obtain ⟨f, fd, ps, O, F, b⟩ := L.ex
  exact call_lenO O F b hr hj
theorem pi_oit (L : OitC X.prog X.w X.K X.mg X.base k C g) (hr : Room j X.A) (hj : k ≤ j) (he : PE X e te) : PI X tg e (iOwnT X.K C g te) := by
  obtain ⟨f, fd, ps, O, F, b⟩ := L.ex
  exact pi_ownT he O F b hr hj
end
/-! ### a def called where the guards are known -/
structure CalG (P : Program) (w : World) (K : PySem.W.Frag) (mg : Str → Option Value) (base : Heap) (k : Nat) (x : Str) (sp : Sp) : Prop where
  ex : ∃ (f : Addr) (fd : FuncData) (ps : List Str), (∀ vs H Q E, sp vs H Q E → vs.length = ps.length) ∧
    (∀ (A : Around) (outer : List Env) (s : Shared) (H : Hp) (args : Args) (us : List Value) (vs : List V) (Q : VK) (E : XK), Room k A → A.guards = some [] → Env0 P w K mg base A outer s H → BindsTo s fd args (ps.zip us) → Vals vs us → sp vs H Q E →
      codeAny (model P w) A (.call (.ref f) args) (CR C8.CX0 outer P w H s Q E) s) ∧ mg x = some (.ref f) ∧ PySem.W.keepIn K (.ref f) = true ∧ Binds K fd ps []
theorem calG {P : Program} {w : World} {K : PySem.W.Frag} {mg : Str → Option Value} {base : Heap} {x : Str} {st : Stmt} {f : Addr} {fd : FuncData} {N ps : List Str} {k : Nat} {sp : Sp} (F : C8.Def K mg x st f fd) (b : Binds K fd ps []) (S : FnScope N ps (C8.fnScope st)) (len : ∀ vs H Q E, sp vs H Q E → vs.length = ps.length)
    (hb : ∀ (c : Value) (A : Around) (out : List Env) (s : Shared) (H : Hp) (vs : List V) (Q : VK) (E : XK), Room k (A.deeper (envOfC x (C8.fnScope st) s.heap.objs.size f c)) → A.guards = some [] → sp vs H Q E →
      ∃ t, PSs (cxOf C8.CX0 P w K mg base N x (C8.fnScope st) f c A out s H E).nox (C8.fnBody st) t ∧ t { nx := fun _ h => Q .non h, rt := Q } (start N vs) H) : CalG P w K mg base (k + 1) x sp := by
  refine ⟨f, fd, ps, len, ?_, F.mgf, F.kp, b⟩
  obtain ⟨oc, od, dV, kV, dc, pm, an, c, ct, sl, rfl, lk, hc⟩ := F.fn.ex
  intro A out s H g us vs Q E hr hg e0 hbind r hsp
  have hn := len _ _ _ _ hsp
  have KX : K.In s.heap := e0.mod.kin.keeps fun _ _ z => keeps_of e0 z
  have lim := e0.mod.nolimit.keeps (h' := s.heap) fun _ _ z => keeps_of e0 z
  refine codeAny_call_function hr.depth (KX _ _ lk) rfl S.co S.gen rfl (PySem.W.codeRec_of KX hc) (hbind _ _ _ _ ?_)
  refine wpAny_newFunctionEnv_cells S.kind (fun y hy => ?_) fun env he s1 x1 => ?_
  · rcases S.par y.1 (List.of_mem_zip hy).1 with z | z
    · exact Or.inl z
    · exact Or.inr ⟨z, PySem.W.cellsFrom_some _ _ _ (Or.inl z)⟩
  · subst he
    refine ⟨lim.keeps x1.toInCall.keep, codeAny_func ?_⟩
    obtain ⟨t, ht, hq⟩ := hb c A out s H vs Q E (hr.deeper _) hg hsp
    refine wpAny_mono (ht.nox.run [] s1 (start N vs) H _ (inv_start S hr.hd e0 hn r x1) hq) (fun fl s' hs => ?_) (fun _ _ hs => hs)
    rcases fl with u | _ | _ | _
    all_goals first
      | exact (by obtain ⟨v, σ', H', J, rv, z⟩ := hs; exact ⟨v, H', J.os, J.bare, J.base, J.hok, rv, z⟩)
      | exact (by obtain ⟨σ', H', J, z⟩ := hs; exact ⟨V.non, H', J.os, J.bare, J.base, J.hok, rfl, z⟩)
      | exact (by obtain ⟨_, _, _, z⟩ := hs; exact z.elim)
section
variable {X : Cx} {k j : Nat} {x : Str} {sp : Sp} {p pos : Pos} {e : Expr} {es : List Expr} {t : TA}
theorem pe_cG (c : CalG X.prog X.w X.K X.mg X.base k x sp) (hr : Room j X.A) (hk : k ≤ j) (hgd : X.A.guards = some []) (hg : Gl X x) (ha : PA X (e :: es) t)
    (hdb : (x == ("__debug__" : Str)) = false := by decide) (he : starEach (e :: es) X.env = (false, eval e X.env) :: starEach es X.env := by rfl) (hpl : (backTo pos (starEach es X.env)).any (·.1) = false := by rfl) :
    PE X (.Call (.Name x p) (e :: es) [] pos) (tCall sp [] C8.E0 t) := by
  obtain ⟨f, fd, ps, len, run, hm, kp, b⟩ := c.ex
  refine ⟨fun pins s σ H Q I h => ?_⟩
  refine wpAny_Call_Name_kw (ld_glob I hg hm ?_ hdb)
  refine PySem.W.callWith_K (h₀ := X.base) I.ok.mod.kin kp (thn (ha.run pos pins s σ H _ I h) fun us s1 ⟨vs, H1, I1, r, q⟩ => ⟨I1.kIn, ?_⟩) he hpl
  dsimp only at q
  rw [List.append_nil] at q
  have hl : us.length = ps.length := by rw [← r.length]; exact len _ _ _ _ q
  refine wpAny_call (codeAny_mono (run X.A X.stack s1 H1 ⟨us, []⟩ us vs Q _ (hr.mono hk) hgd I1.env0 (by
    have := b s1 us I1.kIn (by simpa using hl)
    simpa using this) r q) fun r s' hq => ?_)
  cases r with
  | error e => exact pass0 _ _ _ _ _ _ I1 hq
  | ok fl =>
    cases fl with
    | ret u => exact I1.after hq
    | next => exact False.elim hq
    | brk => exact False.elim hq
    | cont => exact False.elim hq
/-- one of two rules for a call -/
theorem cr_alt {f : Value} {r1 r2 : List V → Hp → VK → Prop} (h1 : CallR X f r1) (h2 : CallR X f r2) : CallR X f (fun xs H Q => r1 xs H Q ∨ r2 xs H Q) := fun pins s σ H xs us Q I r h => h.elim (h1 pins s σ H xs us Q I r) (h2 pins s σ H xs us Q I r)
end
end Vf

set_option maxRecDepth 100000
set_option maxHeartbeats 4000000
namespace Vf
open PySem PySem.Spec PyProof.Rows L2 SX

def topS (i : Nat) : Stmt := PySem.Challenge.pw_textworkshop_k10_tongues_refused.main.body.getD i (.Pass ⟨0, 0, 0, 0⟩)
abbrev s_Rule_init : Stmt := (C8.clsBody (topS 12)).getD 0 (.Pass ⟨0, 0, 0, 0⟩)
def N_Rule_init : List Str := ["self", "words", "options"]
theorem sc_Rule_init : FnScope N_Rule_init ["self", "words"] (C8.fnScope s_Rule_init) := C8.fnScope_by (by decide +kernel)
abbrev s_readRules : Stmt := topS 13
def N_readRules : List Str := ["text", "rules", "openers", "number", "line", "column"]
theorem sc_readRules : FnScope N_readRules ["text"] (C8.fnScope s_readRules) := C8.fnScope_by (by decide +kernel)
abbrev s_wrongColumn : Stmt := topS 14
def N_wrongColumn : List Str := ["line", "openers", "words", "column", "place", "word"]
theorem sc_wrongColumn : FnScope N_wrongColumn ["line", "openers"] (C8.fnScope s_wrongColumn) := C8.fnScope_by (by decide +kernel)
abbrev s_canStand : Stmt := topS 15
def N_canStand : List Str := ["ahead", "word", "openers"]
theorem sc_canStand : FnScope N_canStand ["ahead", "word", "openers"] (C8.fnScope s_canStand) := C8.fnScope_by (by decide +kernel)
abbrev s_optionCanStand : Stmt := topS 16
def N_optionCanStand : List Str := ["ahead", "word", "given", "option"]
theorem sc_optionCanStand : FnScope N_optionCanStand ["ahead", "word"] (C8.fnScope s_optionCanStand) := C8.fnScope_by (by decide +kernel)
abbrev s_isMark : Stmt := topS 17
def N_isMark : List Str := ["word", "sign"]
theorem sc_isMark : FnScope N_isMark ["word"] (C8.fnScope s_isMark) := C8.fnScope_by (by decide +kernel)
abbrev s_ruleWeight : Stmt := topS 18
def N_ruleWeight : List Str := ["rule", "many"]
theorem sc_ruleWeight : FnScope N_ruleWeight ["rule"] (C8.fnScope s_ruleWeight) := C8.fnScope_by (by decide +kernel)
abbrev s_Reader_init : Stmt := (C8.clsBody (topS 21)).getD 0 (.Pass ⟨0, 0, 0, 0⟩)
def N_Reader_init : List Str := ["self", "rules", "marks", "number", "rule", "depth"]
theorem sc_Reader_init : FnScope N_Reader_init ["self", "rules"] (C8.fnScope s_Reader_init) := C8.fnScope_by (by decide +kernel)
abbrev s_pieceMarks : Stmt := topS 22
def N_pieceMarks : List Str := ["rule", "number", "depth", "marks"]
theorem sc_pieceMarks : FnScope N_pieceMarks ["rule", "number", "depth"] (C8.fnScope s_pieceMarks) := C8.fnScope_by (by decide +kernel)
abbrev s_longestFirst : Stmt := topS 23
def N_longestFirst : List Str := ["marks"]
theorem sc_longestFirst : FnScope N_longestFirst ["marks"] (C8.fnScope s_longestFirst) := C8.fnScope_by (by decide +kernel)
abbrev s_Tongue_init : Stmt := (C8.clsBody (topS 25)).getD 0 (.Pass ⟨0, 0, 0, 0⟩)
def N_Tongue_init : List Str := ["self", "text", "rules", "rule"]
theorem sc_Tongue_init : FnScope N_Tongue_init ["self", "text"] (C8.fnScope s_Tongue_init) := C8.fnScope_by (by decide +kernel)
abbrev s_Tongue_len : Stmt := (C8.clsBody (topS 25)).getD 1 (.Pass ⟨0, 0, 0, 0⟩)
def N_Tongue_len : List Str := ["self"]
theorem sc_Tongue_len : FnScope N_Tongue_len ["self"] (C8.fnScope s_Tongue_len) := C8.fnScope_by (by decide +kernel)
abbrev s_Tongue_iter : Stmt := (C8.clsBody (topS 25)).getD 2 (.Pass ⟨0, 0, 0, 0⟩)
def N_Tongue_iter : List Str := ["self"]
theorem sc_Tongue_iter : FnScope N_Tongue_iter ["self"] (C8.fnScope s_Tongue_iter) := C8.fnScope_by (by decide +kernel)
abbrev s_Tongue_eq : Stmt := (C8.clsBody (topS 25)).getD 3 (.Pass ⟨0, 0, 0, 0⟩)
def N_Tongue_eq : List Str := ["self", "other"]
theorem sc_Tongue_eq : FnScope N_Tongue_eq ["self", "other"] (C8.fnScope s_Tongue_eq) := C8.fnScope_by (by decide +kernel)
abbrev s_pen : Stmt := topS 27
def N_pen : List Str := ["_law_script", "_law_fold", "_law_cell"]
theorem sc_pen : FnScope N_pen ["_law_script"] (C8.fnScope s_pen) := C8.fnScope_by (by decide +kernel)
abbrev s_draw : Stmt := topS 28
def N_draw : List Str := ["_law_pen_here", "_law_many", "_law_cell", "_law_digit", "_law_mixed"]
theorem sc_draw : FnScope N_draw ["_law_pen_here", "_law_many"] (C8.fnScope s_draw) := C8.fnScope_by (by decide +kernel)
abbrev s_pick : Stmt := topS 29
def N_pick : List Str := ["_law_pen_here", "_law_some_here"]
theorem sc_pick : FnScope N_pick ["_law_pen_here", "_law_some_here"] (C8.fnScope s_pick) := C8.fnScope_by (by decide +kernel)
abbrev s_lawWord : Stmt := topS 30
def N_lawWord : List Str := ["_law_pen_here", "_law_signs", "_law_most", "_law_k"]
theorem sc_lawWord : FnScope N_lawWord ["_law_pen_here", "_law_signs", "_law_most"] (C8.fnScope s_lawWord) := C8.fnScope_by (by decide +kernel)
abbrev s_markSigns : Stmt := topS 31
def N_markSigns : List Str := []
theorem sc_markSigns : FnScope N_markSigns [] (C8.fnScope s_markSigns) := C8.fnScope_by (by decide +kernel)
abbrev s_some : Stmt := topS 32
def N_some : List Str := ["_law_pen_here", "_law_items", "_law_many", "_law_rest", "_law_found", "_law_k"]
theorem sc_some : FnScope N_some ["_law_pen_here", "_law_items", "_law_many"] (C8.fnScope s_some) := C8.fnScope_by (by decide +kernel)
abbrev s_ruleLine : Stmt := topS 33
def N_ruleLine : List Str := ["_law_rule", "_law_kind", "_law_mark", "_law_close", "_law_deep", "_law_escape", "_law_doubled", "_law_line", "_law_words"]
theorem sc_ruleLine : FnScope N_ruleLine ["_law_rule"] (C8.fnScope s_ruleLine) := C8.fnScope_by (by decide +kernel)
abbrev s_newRule : Stmt := topS 34
def N_newRule : List Str := ["_law_pen_here", "_law_mark", "_law_signs", "_law_most", "_law_kind", "_law_way", "_law_close", "_law_nests", "_law_escape", "_law_doubled", "_law_line"]
theorem sc_newRule : FnScope N_newRule ["_law_pen_here", "_law_mark", "_law_signs", "_law_most"] (C8.fnScope s_newRule) := C8.fnScope_by (by decide +kernel)
abbrev s_newRules : Stmt := topS 35
def N_newRules : List Str := ["_law_pen_here", "_law_many", "_law_most", "_law_signs", "_law_marks", "_law_turn", "_law_mark"]
theorem sc_newRules : FnScope N_newRules ["_law_pen_here", "_law_many", "_law_most"] (C8.fnScope s_newRules) := C8.fnScope_by (by decide +kernel)
abbrev s_allSigns : Stmt := topS 36
def N_allSigns : List Str := ["_law_letters"]
theorem sc_allSigns : FnScope N_allSigns [] (C8.fnScope s_allSigns) := C8.fnScope_by (by decide +kernel)
abbrev s_lawIsMark : Stmt := topS 37
def N_lawIsMark : List Str := ["_law_word_here", "_law_signs", "_law_sign"]
theorem sc_lawIsMark : FnScope N_lawIsMark ["_law_word_here"] (C8.fnScope s_lawIsMark) := C8.fnScope_by (by decide +kernel)
abbrev s_optionStands : Stmt := topS 38
def N_optionStands : List Str := ["_law_before", "_law_word_here", "_law_behind", "_law_marks"]
theorem sc_optionStands : FnScope N_optionStands ["_law_before", "_law_word_here"] (C8.fnScope s_optionStands) := C8.fnScope_by (by decide +kernel)
abbrev s_wordStands : Stmt := topS 39
def N_wordStands : List Str := ["_law_before", "_law_word_here", "_law_openings", "_law_many"]
theorem sc_wordStands : FnScope N_wordStands ["_law_before", "_law_word_here", "_law_openings"] (C8.fnScope s_wordStands) := C8.fnScope_by (by decide +kernel)
abbrev s_lawWrongColumn : Stmt := topS 40
def N_lawWrongColumn : List Str := ["_law_line", "_law_openings", "_law_words", "_law_column", "_law_k"]
theorem sc_lawWrongColumn : FnScope N_lawWrongColumn ["_law_line", "_law_openings"] (C8.fnScope s_lawWrongColumn) := C8.fnScope_by (by decide +kernel)
abbrev s_firstWrong : Stmt := topS 41
def N_firstWrong : List Str := ["_law_lines", "_law_openings", "_law_k", "_law_column"]
theorem sc_firstWrong : FnScope N_firstWrong ["_law_lines"] (C8.fnScope s_firstWrong) := C8.fnScope_by (by decide +kernel)
abbrev s_oddWords : Stmt := topS 42
def N_oddWords : List Str := ["_law_marks", "_law_found"]
theorem sc_oddWords : FnScope N_oddWords ["_law_marks"] (C8.fnScope s_oddWords) := C8.fnScope_by (by decide +kernel)
abbrev s_spoiled : Stmt := topS 43
def N_spoiled : List Str := ["_law_pen_here", "_law_lines", "_law_marks", "_law_way", "_law_k", "_law_words", "_law_word_here", "_law_at", "_law_sign", "_law_place", "_law_line"]
theorem sc_spoiled : FnScope N_spoiled ["_law_pen_here", "_law_lines", "_law_marks"] (C8.fnScope s_spoiled) := C8.fnScope_by (by decide +kernel)
abbrev s_toldTongue : Stmt := topS 44
def N_toldTongue : List Str := ["_law_text", "_law_lines", "_law_told", "_law_tongue", "_law_other", "e", "_law_same", "_law_line"]
theorem sc_toldTongue : FnScope N_toldTongue ["_law_text", "_law_lines"] (C8.fnScope s_toldTongue) := C8.fnScope_by (by decide +kernel)
abbrev s_law : Stmt := topS 45
def N_law : List Str := ["_law_script", "_law_pen_here", "_law_turn", "_law_rules", "_law_lines", "_law_marks", "_law_change", "_law_text", "_law_read", "_law_rule"]
theorem sc_law : FnScope N_law ["_law_script"] (C8.fnScope s_law) := C8.fnScope_by (by decide +kernel)
structure Tx (K : PySem.W.Frag) (w : World) (mg : Str → Option Value) : Prop where
  z_int : mg "int" = none
  z_enumerate : mg "enumerate" = none
  z_tuple : mg "tuple" = none
  z_len : mg "len" = none
  z_any : mg "any" = none
  z_all : mg "all" = none
  z_max : mg "max" = none
  z_range : mg "range" = none
  z_sorted : mg "sorted" = none
  z_sum : mg "sum" = none
  z_iter : mg "iter" = none
  z_isinstance : mg "isinstance" = none
  z_list : mg "list" = none
  z_min : mg "min" = none
  z_str : mg "str" = none
  z_ValueError : mg "ValueError" = none
  z_repr : mg "repr" = none
  g_MOST_RULES : ∃ u, mg "MOST_RULES" = some u ∧ RelV (.int 6) u
  g_LONGEST_MARK : ∃ u, mg "LONGEST_MARK" = some u ∧ RelV (.int 4) u
  g_MARK_SIGNS : ∃ u, mg "MARK_SIGNS" = some u ∧ RelV (.str (S [33, 34, 35, 36, 38, 39, 40, 41, 42, 43, 44, 45, 46, 47, 58, 59, 60, 61, 62, 63, 64, 91, 92, 93, 94, 96, 123, 124, 125, 126])) u
  g_KINDS : ∃ d, (∃ u, mg "KINDS" = some u ∧ RelV (.ref d) u) ∧ ∀ H : Hp, SqT K H d [.str "remark", .str "quote"]
  g_DEPTHS : ∃ d, (∃ u, mg "DEPTHS" = some u ∧ RelV (.ref d) u) ∧ ∀ H : Hp, SqT K H d [.str "2", .str "3", .str "4"]
  g_OPTIONS : ∃ d, (∃ u, mg "OPTIONS" = some u ∧ RelV (.ref d) u) ∧ (∀ H : Hp, SqT K H d [.str "nested", .str "escape", .str "doubled", .str "line"]) ∧ ∃ o, K.lookup d = some o ∧ o.cls = .type "tuple" ∧ o.dict = none
  g_CODE : ∃ d, (∃ u, mg "CODE" = some u ∧ RelV (.ref d) u) ∧ ∀ H : Hp, SqT K H d [.int (-1), .int (0), .int (0)]
end Vf

set_option maxRecDepth 100000
set_option maxHeartbeats 4000000
namespace Vf
open PySem PySem.Spec PyProof.Rows L2 SX
section
variable {K : PySem.W.Frag} {C a : Addr} {H : Hp} {Q : VK} {rt : VK}
abbrev Qx (C a : Addr) (H : Hp) (Q : VK) (fs : List (Str × V)) : Prop := ∀ (d : Addr) (H2 : Hp), H d = none → d ≠ a → H2 a = some (exo a C (some d)) → H2 d = some (exd d fs) → (∀ b o, b ≠ a → H b = some o → H2 b = some o) → (∀ b, H2 b = none → H b = none) → Q .non H2
theorem inx1 {f : Str} {y : V} {σ : L2.St} (O : OexC K C) (no : ∀ g ∈ [f], PySem.W.findIn K (.ref C) g = some none) (ha : H a = some (exo a C none)) (q : Qx C a H Q ([f].zip [y]).reverse)
    (s0 : σ[0]? = some (some (.ref a))) (s1 : σ[1]? = some (some y)) : tOst K f (tVar 0) (tVar 1) { nx := fun _ h => Q .non h, rt := rt } σ H := by
  refine ⟨y, s1, .ref a, s0, a, C, rfl, O, no f (List.mem_singleton.mpr rfl), .inl ⟨ha, fun d hd nd => q d _ hd nd upd_same (by rw [upd_ne nd]; exact upd_same) (fun b o n z => by rw [upd_ne n, upd_ne (ne_of_none z hd)]; exact z) (fun b z => ?_)⟩⟩
  by_cases e1 : b = a
  · subst e1; rw [upd_same] at z; cases z
  · rw [upd_ne e1] at z
    by_cases e2 : b = d
    · subst e2; exact hd
    · rw [upd_ne e2] at z; exact z
theorem inx2 {f1 f2 : Str} {y1 y2 : V} {σ : L2.St} (O : OexC K C) (no : ∀ g ∈ [f1, f2], PySem.W.findIn K (.ref C) g = some none) (ha : H a = some (exo a C none)) (q : Qx C a H Q ([f1, f2].zip [y1, y2]).reverse) :
    σ[0]? = some (some (.ref a)) → σ[1]? = some (some y1) → σ[2]? = some (some y2) → tSeq (tOst K f1 (tVar 0) (tVar 1)) (tOst K f2 (tVar 0) (tVar 2)) { nx := fun _ h => Q .non h, rt := rt } σ H := by
  intro s0 s1 s2
  refine ⟨y1, s1, .ref a, s0, a, C, rfl, O, no f1 (by simp), .inl ⟨ha, fun d hd nd => ?_⟩⟩
  have e1 : (upd (upd H d (exd d [(f1, y1)])) a (exo a C (some d))) a = some (exo a C (some d)) := upd_same
  have e2 : (upd (upd H d (exd d [(f1, y1)])) a (exo a C (some d))) d = some (exd d [(f1, y1)]) := by rw [upd_ne nd]; exact upd_same
  refine ⟨y2, s2, .ref a, s0, a, C, rfl, O, no f2 (by simp), .inr ⟨d, [(f1, y1)], e1, e2, by show 1 ≤ 900; omega, ?_⟩⟩
  refine q d _ hd nd (by rw [upd_ne nd.symm]; exact e1) upd_same (fun b o n z => ?_) (fun b z => ?_)
  · rw [upd_ne (ne_of_none z hd), upd_ne n, upd_ne (ne_of_none z hd)]; exact z
  · by_cases g1 : b = d
    · subst g1; exact hd
    · rw [upd_ne g1] at z
      by_cases g2 : b = a
      · subst g2; rw [upd_same] at z; cases z
      · rw [upd_ne g2, upd_ne g1] at z; exact z
end
abbrev i_BadText : Stmt := (C8.clsBody (topS 3)).getD 0 (.Pass ⟨0, 0, 0, 0⟩)
theorem si_BadText : FnScope ["self", "line", "column"] ["self", "line", "column"] (C8.fnScope i_BadText) := C8.fnScope_by (by decide +kernel)
theorem ini_BadText {P : Program} {w : World} {K : PySem.W.Frag} {mg : Str → Option Value} {base : Heap} {C f : Addr} {fd : FuncData} {q : Str} (O : OexC K C) (no : ∀ f ∈ (["line", "column"] : List Str), PySem.W.findIn K (.ref C) f = some none) (F : C8.Fun K "__init__" q i_BadText f fd) : FnOk P w K mg base C8.CX0 1 f fd ["self", "line", "column"] (sp_inx C ["line", "column"]) := by
  refine C8.fn0 F si_BadText (fun vs H Q E h => ?_) (fun cdv A outer s H vs Q E hr h => ?_)
  · obtain ⟨a, ys, rfl, h, _⟩ := h; exact congrArg (· + 1) h
  refine ⟨_, (pss_cons (ps_ost (pv 0) (pv 1)) (pss_one (ps_ost (pv 0) (pv 2)))), ?_⟩
  obtain ⟨a, ys, rfl, hl, ha, q⟩ := h
  match ys, hl with
  | [y0, y1], _ =>
    exact inx2 O no ha q rfl rfl rfl
structure Es (P : Program) (w : World) (K : PySem.W.Frag) (mg : Str → Option Value) (base : Heap) (CBadText CW CN : Addr) : Prop where
  r_BadText : Rk P w K mg base "BadText" CBadText ["line", "column"]
  g_WorkshopError : mg "WorkshopError" = some (.ref CW)
  g_BadNumber : mg "BadNumber" = some (.ref CN)
  ex : PySem.W.exmOne K (.ref CBadText) (.ref CBadText) = some true
  ec : ExcC K CBadText
  tw : PySem.W.kitOne K (.ref CBadText) (.ref CW) = some true
  tn : PySem.W.kitOne K (.ref CBadText) (.ref CN) = some false
  tv : PySem.W.kitOne K (.ref CBadText) (.type "ValueError") = some true
end Vf

set_option maxRecDepth 100000
set_option maxHeartbeats 4000000
namespace Vf
open PySem PySem.Spec PyProof.Rows L2 SX
section
variable {P : Program} {w : World} {K : PySem.W.Frag} {mg : Str → Option Value} {base : Heap}
/-! ### the promises -/
def spPost (p c : Addr) (m k : Nat) (H : Hp) (R : V → Hp → Prop) (Q : VK) : Prop := ∀ (H' : Hp) (v : V), Ks H H' → PenAt H' p c (m + k) → R v H' → Q v H'
def sp_pen (K : PySem.W.Frag) : Sp := fun vs H Q _ => ∃ (a : Addr) (ns : List Int), vs = [.ref a] ∧ SqL K H a (ns.map V.int) ∧ ns.length ≤ 63 ∧ ∀ (H' : Hp) (p c : Addr), Ks H H' → PenAt H' p c 0 → Q (.ref p) H'
def sp_draw : Sp := fun vs H Q _ => ∃ (p c : Addr) (m n : Nat), vs = [.ref p, .int (n : Int)] ∧ PenAt H p c m ∧ m < 1000000 ∧ 1 ≤ n ∧ n < 1073741824 ∧ ∀ (H' : Hp) (r : Nat), Ks H H' → PenAt H' p c (m + 1) → r < n → Q (.int (r : Int)) H'
def sp_pick : Sp := fun vs H Q _ => ∃ (p c : Addr) (m : Nat) (x : V), vs = [.ref p, x] ∧ PenAt H p c m ∧ m < 1000000 ∧
  ((∃ l : List Nat, x = .str (S l) ∧ 1 ≤ l.length ∧ l.length ≤ 1000000 ∧ ∀ (H' : Hp) (ch : Nat), Ks H H' → PenAt H' p c (m + 1) → ch ∈ l → Q (.str (S [ch])) H') ∨
   ∃ (a : Addr) (xs : List V), x = .ref a ∧ H a = some (.lst xs) ∧ 1 ≤ xs.length ∧ xs.length ≤ 1000000 ∧ ∀ (H' : Hp) (v : V), Ks H H' → PenAt H' p c (m + 1) → v ∈ xs → Q v H')

/-! ### a comprehension over a range whose element draws -/
theorem lc_pen {p c : Addr} {m0 n s : Nat} {te : TE} {k : Nat} {σ : L2.St} {H1 : Hp} {D : Addr} {Qd : Hp → Prop} (R : V → Hp → Prop) (stab : ∀ v H H', Tk H H' → R v H → R v H') (hk : k < σ.length) (hD : H1 D = none) (hp : PenAt H1 p c m0) (hn : n ≤ 1000000)
    (hs : ∀ (i : Nat) (H : Hp) (m : Nat) (Q : VK), i < n → PenAt H p c m → m ≤ m0 + i * s → (∀ (H' : Hp) (v : V), Ks H H' → PenAt H' p c (m + s) → R v H' → Q v H') → te ((wipe σ [k]).set k (some (.int ((0 : Int) + i)))) H Q)
    (hd : ∀ (H : Hp) (xs : List V), xs.length = n → (∀ v ∈ xs, R v H) → H D = some (.lst xs) → Ks H1 H → PenAt H p c (m0 + n * s) → Qd H) :
    ∃ W : Nat → Nat → Hp → Prop, (∃ m, W 0 m (upd H1 D (.lst []))) ∧ ∀ i m H, W i m H →
      ((Itr 0 n).stop i H ∧ Qd H) ∨ ((Itr 0 n).go i H ∧ ∃ Nx : Hp → Prop, (∀ H', Nx H' → ∃ m', m' < m ∧ W (i + 1) m' H') ∧ ∀ x H', (Itr 0 n).yld i H x H' → gName k x (wipe σ [k]) H' fun σ2 H2 => wipe σ2 [k] = wipe σ [k] ∧ tYes σ2 H2 fun b H3 =>
        if b = true then te σ2 H3 fun y H4 => ∃ acc, H4 D = some (.lst acc) ∧ acc.length < sizeLine ∧ Nx (upd H4 D (.lst (acc ++ [y]))) else Nx H3) := by
  have nD := hp.ne hD
  refine lc_range (lo := 0) (n := n) (fun i H => ∃ xs : List V, xs.length = i ∧ (∀ v ∈ xs, R v H) ∧ H D = some (.lst xs) ∧ Ks H1 H ∧ PenAt H p c (m0 + i * s)) ?_ ?_ ?_
  · exact ⟨[], rfl, (fun _ h => nomatch h), upd_same, Ks.new1 hD _, by rw [Nat.zero_mul]; exact hp.new hD⟩
  · rintro i H hi ⟨xs, e1, e2, e3, e4, e5⟩
    refine ⟨?_, ?_⟩
    · show ((σ.set k none).set k _).set k none = (σ.set k none)
      rw [List.set_set, List.set_set]
    · dsimp only [tYes]
      rw [if_pos rfl]
      refine hs i H _ _ hi e5 (Nat.le_refl _) (fun H' v k1 k2 k3 => ?_)
      refine ⟨xs, k1.lst e3, szL (by omega), xs ++ [v], by rw [List.length_append, e1]; rfl, fun u hu => ?_, upd_same, (e4.trans k1).upd hD _, ?_⟩
      · have tk : Tk H' (upd H' D (.lst (xs ++ [v]))) := (Tk.refl H').lst (k1.lst e3)
        rcases List.mem_append.mp hu with hu | hu
        · exact stab _ _ _ (k1.tk.trans tk) (e2 u hu)
        · rw [List.mem_singleton.mp hu]
          exact stab _ _ _ tk k3
      · rw [Nat.succ_mul, ← Nat.add_assoc]
        exact k2.upd nD.1 nD.2
  · rintro H ⟨xs, e1, e2, e3, e4, e5⟩
    exact hd H xs e1 e2 e3 e4 e5
/-- a list of one-sign texts -/
def Ones (P : Nat → Prop) (v : V) : Prop := ∃ ch, v = .str (S [ch]) ∧ P ch
theorem ones_of {P : Nat → Prop} : ∀ {xs : List V}, (∀ v ∈ xs, Ones P v) → ∃ t : List Nat, xs = ((t.map fun c => S [c]).map V.str) ∧ (∀ c ∈ t, P c)
  | [], _ => ⟨[], rfl, fun _ h => nomatch h⟩
  | v :: xs, h => by
    obtain ⟨t, e, ht⟩ := ones_of (xs := xs) fun u hu => h u (List.mem_cons_of_mem _ hu)
    obtain ⟨ch, e1, e2⟩ := h v (List.mem_cons_self ..)
    refine ⟨ch :: t, by rw [e1, e]; rfl, fun c hc => ?_⟩
    rcases List.mem_cons.mp hc with hc | hc
    · rw [hc]; exact e2
    · exact ht c hc
theorem joinL_ones : ∀ t : List Nat, TL.joinL [] (t.map fun c => [c]) = t
  | [] => rfl
  | [_] => rfl
  | c :: d :: t => by
    show [c] ++ ([] ++ TL.joinL [] ((d :: t).map fun c => [c])) = c :: d :: t
    rw [joinL_ones (d :: t)]
    rfl
theorem join_ones : ∀ t : List Nat, Txt.join (S []) (t.map fun c => S [c]) = S t := fun t => by
  have e : (t.map fun c => S [c]) = (t.map fun c => [c]).map S := by rw [List.map_map]; rfl
  rw [e, join_S]
  exact congrArg S (joinL_ones t)
theorem ones_len : ∀ t : List Nat, ((t.map fun c => S [c]).map (·.length)).sum = t.length
  | [] => rfl
  | c :: t => by
    have := ones_len t
    show 1 + ((t.map fun c => S [c]).map (·.length)).sum = t.length + 1
    omega
theorem ones_bound {t : List Nat} (h : t.length ≤ 1000000) : ((t.map fun c => S [c]).map (·.length)).sum + (t.map fun c => S [c]).length * (S []).length ≤ 16777216 := by
  rw [ones_len]
  show t.length + _ * 0 ≤ 16777216
  omega

theorem same_new {H0 H : Hp} {p : Addr} (s : Same H0 H) (h : H p = none) (o : HO) : Same H0 (upd H p o) := fun b u e => by
  rw [upd_ne (ne_of_none (s b u e) h)]
  exact s b u e
theorem same_upd {H0 H : Hp} {p : Addr} (s : Same H0 H) (h : H0 p = none) (o : HO) : Same H0 (upd H p o) := fun b u e => by
  rw [upd_ne (ne_of_none e h)]
  exact s b u e
theorem sz_1 : 1 ≤ sizeLine := by decide
theorem sz_2 : 2 ≤ sizeLine := by decide
theorem sz_3 : 3 ≤ sizeLine := by decide
theorem eq1 (c d : Nat) : decide (V.str (S [c]) = V.str (S [d])) = decide (c = d) := by
  by_cases h : c = d
  · subst h
    rw [decide_eq_true rfl, decide_eq_true rfl]
  · rw [decide_eq_false h]
    exact decide_eq_false fun z => h (List.cons.inj (S_inj (V.str.inj z))).1
def isS (c : Nat) : Bool := decide (c ∈ signsL)
def NotStr (K : PySem.W.Frag) (H : Hp) (x : V) : Prop := ∃ t, TyX K H x t ∧ PySem.W.kitOne K t (.type "str") = some false
theorem ifT {A B : Prop} (h : A) : if (true : Bool) = true then A else B := by rw [if_pos rfl]; exact h
theorem ifF {A B : Prop} (h : B) : if (false : Bool) = true then A else B := by rw [if_neg Bool.false_ne_true]; exact h
/-! ### words of rules -/
def mkL : List Nat := [33, 34, 35, 36, 38, 39, 40, 41, 42, 43, 44, 45, 46, 47, 58, 59, 60, 61, 62, 63, 64, 91, 92, 93, 94, 96, 123, 124, 125, 126]
def isMk (w : Str) : Bool := decide (1 ≤ w.length) && (decide (w.length ≤ 4) && (TL.tl w).all fun c => decide (c ∈ mkL))
def OPTS : List Str := ["nested", "escape", "doubled", "line"]
def optB (ah : List Str) (w : Str) : Bool :=
  if (ah.drop 4).getLast? = some ("nested" : Str) then decide (w ∈ (["2", "3", "4"] : List Str))
  else if (ah.drop 4).getLast? = some ("escape" : Str) then decide (w.length = 1) && isMk w
  else if ("line" : Str) ∈ ah.drop 4 then false
  else if w = "line" then decide (ah.getD 3 "" ≠ "line")
  else if ("doubled" : Str) ∈ ah.drop 4 then false
  else if w = "doubled" then decide (ah.getD 3 "" ≠ "line") && decide (("nested" : Str) ∉ ah.drop 4)
  else if w = "escape" then decide (("escape" : Str) ∉ ah.drop 4)
  else decide (w = "nested") && (decide (ah.drop 4 = []) && (decide (ah.getD 0 "" = "remark") && (decide (ah.getD 3 "" ≠ "line") && decide (ah.getD 3 "" ≠ ah.getD 1 ""))))
/-- what the program asks -/
def optP (ah : List Str) (w : Str) : Bool :=
  if w ∉ OPTS then false
  else if (OPTS.drop (OPTS.idxOf w)).any (fun o => decide (o ∈ ah.drop 4)) = true then false
  else if w = "escape" then true
  else if w = "nested" then decide (ah.getD 0 "" = "remark") && !(decide (ah.getD 3 "" ∈ ([("line" : Str), ah.getD 1 ""] : List Str)))
  else decide (ah.getD 3 "" ≠ "line") && !(decide (w = "doubled") && decide (("nested" : Str) ∈ ah.drop 4))
def FirstOk (ah : List Str) : Prop := ∀ o, (ah.drop 4)[0]? = some o → o ∈ OPTS
theorem optP_eq {ah : List Str} {w : Str} (h : FirstOk ah) (h1 : (ah.drop 4).getLast? ≠ some ("nested" : Str)) (h2 : (ah.drop 4).getLast? ≠ some ("escape" : Str)) : optP ah w = optB ah w := by
  have fst : ∀ {g : List Str}, (∀ o, g[0]? = some o → o ∈ OPTS) → g ≠ [] → ("nested" : Str) ∈ g ∨ ("escape" : Str) ∈ g ∨ ("doubled" : Str) ∈ g ∨ ("line" : Str) ∈ g := by
    intro g hg hn
    cases g with
    | nil => exact absurd rfl hn
    | cons o r =>
      have := hg o rfl
      simp only [OPTS, List.mem_cons, List.not_mem_nil, or_false] at this
      rcases this with rfl | rfl | rfl | rfl
      · exact .inl (.head _)
      · exact .inr (.inl (.head _))
      · exact .inr (.inr (.inl (.head _)))
      · exact .inr (.inr (.inr (.head _)))
  unfold FirstOk at h
  unfold optP optB
  rw [if_neg h1, if_neg h2]
  generalize ah.drop 4 = g at h h1 h2 ⊢
  generalize ah.getD 3 "" = a3
  generalize ah.getD 1 "" = a1
  generalize ah.getD 0 "" = a0
  have d0 : OPTS.drop (OPTS.idxOf ("nested" : Str)) = (["nested", "escape", "doubled", "line"] : List Str) := by decide +kernel
  have d1 : OPTS.drop (OPTS.idxOf ("escape" : Str)) = (["escape", "doubled", "line"] : List Str) := by decide +kernel
  have d2 : OPTS.drop (OPTS.idxOf ("doubled" : Str)) = (["doubled", "line"] : List Str) := by decide +kernel
  have d3 : OPTS.drop (OPTS.idxOf ("line" : Str)) = (["line"] : List Str) := by decide +kernel
  have n1 : ("escape" : Str) ≠ "line" := by decide +kernel
  have n2 : ("escape" : Str) ≠ "doubled" := by decide +kernel
  have n3 : ("nested" : Str) ≠ "line" := by decide +kernel
  have n4 : ("nested" : Str) ≠ "doubled" := by decide +kernel
  have n5 : ("nested" : Str) ≠ "escape" := by decide +kernel
  have n6 : ("doubled" : Str) ≠ "line" := by decide +kernel
  by_cases m : w ∈ OPTS
  · rw [if_neg (by simpa using m)]
    have m' := m
    simp only [OPTS, List.mem_cons, List.not_mem_nil, or_false] at m'
    rcases m' with rfl | rfl | rfl | rfl
    · rw [d0]
      by_cases hg : g = []
      · subst hg
        simp [n3, n4, n5]
      · have f := fst h hg
        have e : (["nested", "escape", "doubled", "line"] : List Str).any (fun o => decide (o ∈ g)) = true := by simpa using f
        rw [if_pos e]
        simp [n3, n4, n5, hg]
    · rw [d1]
      by_cases c1 : ("line" : Str) ∈ g
      · simp [c1]
      · by_cases c2 : ("doubled" : Str) ∈ g
        · simp [c1, c2, n1]
        · by_cases c3 : ("escape" : Str) ∈ g <;> simp [c1, c2, c3, n1, n2]
    · rw [d2]
      by_cases c1 : ("line" : Str) ∈ g
      · simp [c1]
      · by_cases c2 : ("doubled" : Str) ∈ g
        · simp [c1, c2, n6]
        · simp [c1, c2, n6, n2.symm, n4.symm]
    · rw [d3]
      by_cases c1 : ("line" : Str) ∈ g
      · simp [c1]
      · simp [c1, n1.symm, n3.symm, n6.symm]
  · rw [if_pos m]
    have m' := m
    simp only [OPTS, List.mem_cons, List.not_mem_nil, or_false, not_or] at m'
    obtain ⟨x1, x2, x3, x4⟩ := m'
    simp [x1, x2, x3, x4]
def canB (ah : List Str) (w : Str) (os : List Str) : Bool :=
  if ah.length = 0 then decide (w ∈ (["remark", "quote"] : List Str))
  else if ah.length = 1 then isMk w && !(decide (w ∈ os))
  else if ah.length = 2 then decide (w = "to")
  else if ah.length = 3 then decide (w = "line") || isMk w
  else optB ah w
def Vd (ws os : List Str) : Prop := ∀ (i : Nat) (w : Str), ws[i]? = some w → canB (ws.take i) w os = true
theorem vd_nil (os : List Str) : Vd [] os := fun i w h => by cases i <;> cases h
theorem vd_snoc {ws os : List Str} {w : Str} (h : Vd ws os) (c : canB ws w os = true) : Vd (ws ++ [w]) os := fun i u hu => by
  rcases Nat.lt_or_ge i ws.length with hi | hi
  · rw [List.getElem?_append_left hi] at hu
    rw [List.take_append_of_le_length (Nat.le_of_lt hi)]
    exact h i u hu
  · rw [List.getElem?_append_right hi] at hu
    have e : i = ws.length := by
      have := (List.getElem?_eq_some_iff.mp hu).1
      rw [List.length_singleton] at this
      omega
    subst e
    rw [Nat.sub_self] at hu
    cases hu
    rw [List.take_left]
    exact c
theorem mk_letters {w : Str} (h : isMk w = true) : w ≠ "nested" ∧ w ≠ "escape" ∧ w ≠ "line" := by
  refine ⟨fun z => ?_, fun z => ?_, fun z => ?_⟩ <;> subst z <;> revert h <;> decide +kernel
theorem vd_at {ws os : List Str} (h : Vd ws os) {i : Nat} (hi : i < ws.length) : canB (ws.take i) ws[i] os = true := h i _ (List.getElem?_eq_getElem hi)
theorem vd_3 {ws os : List Str} (h : Vd ws os) (hl : 4 ≤ ws.length) : ws[3] = "line" ∨ isMk ws[3] = true := by
  have c := vd_at h (i := 3) (by omega)
  unfold canB at c
  have e : (ws.take 3).length = 3 := by rw [List.length_take]; omega
  rw [e, if_neg (by decide), if_neg (by decide), if_neg (by decide), if_pos rfl, Bool.or_eq_true, decide_eq_true_eq] at c
  exact c
theorem vd_first {ws os : List Str} (h : Vd ws os) : FirstOk ws := fun o ho => by
  rw [List.getElem?_drop] at ho
  have hi := (List.getElem?_eq_some_iff.mp ho).1
  have c := h _ _ ho
  unfold canB at c
  have e : (ws.take (4 + 0)).length = 4 := by rw [List.length_take]; omega
  rw [e, if_neg (by decide), if_neg (by decide), if_neg (by decide), if_neg (by decide)] at c
  have e0 : (ws.take (4 + 0)).drop 4 = [] := List.drop_eq_nil_of_le (by omega)
  unfold optB at c
  rw [e0, if_neg (by simp), if_neg (by simp), if_neg (by simp)] at c
  unfold OPTS
  by_cases c1 : o = "line"
  · subst c1; simp
  · rw [if_neg c1, if_neg (by simp)] at c
    by_cases c2 : o = "doubled"
    · subst c2; simp
    · rw [if_neg c2] at c
      by_cases c3 : o = "escape"
      · subst c3; simp
      · rw [if_neg c3, Bool.and_eq_true, decide_eq_true_eq] at c
        rw [c.1]; simp
/-- the last word, told as the program and the law ask it -/
theorem last_drop {ws : List Str} (hl : 4 < ws.length) : (ws.drop 4).getLast? = ws.getLast? := by
  rw [List.getLast?_drop, if_neg (by omega)]
theorem vd_last {ws os : List Str} (h : Vd ws os) (hl : 4 ≤ ws.length) {o : Str} (ho : o = "nested" ∨ o = "escape") : (ws.getLast? = some o) ↔ (ws.drop 4).getLast? = some o := by
  rcases Nat.lt_or_ge 4 ws.length with g | g
  · rw [last_drop g]
  · have e : ws.length = 4 := by omega
    have e0 : ws.drop 4 = [] := List.drop_eq_nil_of_le g
    rw [e0]
    refine ⟨fun z => ?_, fun z => by cases z⟩
    rw [List.getLast?_eq_getElem?, e] at z
    have := (List.getElem?_eq_some_iff.mp z).2
    have q := vd_3 h hl
    have z3 : ws[3] = o := this
    rw [z3] at q
    rcases q with q | q
    · rcases ho with rfl | rfl <;> revert q <;> decide +kernel
    · have := mk_letters q
      rcases ho with rfl | rfl
      · exact absurd rfl this.1
      · exact absurd rfl this.2.1
/-! ### a line of a tongue -/
def spS (l : Str) : List Str := Txt.split l (" " : Str)
def wcGo (os : List Str) : List Str → List Str → Nat → Option Nat
  | _, [], _ => none
  | ah, w :: r, c => if canB ah w os = true then wcGo os (ah ++ [w]) r (c + (w.length + 1)) else some c
def wcol (l : Str) (os : List Str) : Option Nat :=
  match wcGo os [] (spS l) 1 with
  | some c => some c
  | none => if (spS l).length < 4 ∨ (spS l).getLast? = some ("nested" : Str) ∨ (spS l).getLast? = some ("escape" : Str) then some (l.length + 1) else none
theorem wcGo_vd {os : List Str} : ∀ {r ah : List Str} {c : Nat}, wcGo os ah r c = none → Vd ah os → Vd (ah ++ r) os
  | [], ah, c, _, h => by rw [List.append_nil]; exact h
  | w :: r, ah, c, e, h => by
    unfold wcGo at e
    by_cases q : canB ah w os = true
    · rw [if_pos q] at e
      have := wcGo_vd e (vd_snoc h q)
      rwa [List.append_assoc] at this
    · rw [if_neg q] at e; cases e
def CV (ws os : List Str) : Prop := Vd ws os ∧ 4 ≤ ws.length ∧ ws.getLast? ≠ some ("nested" : Str) ∧ ws.getLast? ≠ some ("escape" : Str)
theorem wcol_cv {l : Str} {os : List Str} (h : wcol l os = none) : CV (spS l) os := by
  unfold wcol at h
  cases e : wcGo os [] (spS l) 1 with
  | some c => rw [e] at h; cases h
  | none =>
    rw [e] at h
    dsimp only at h
    split at h
    · cases h
    · rename_i q
      rw [not_or, not_or] at q
      have := wcGo_vd e (vd_nil os)
      rw [List.nil_append] at this
      exact ⟨this, by omega, q.2.1, q.2.2⟩
def opn (l : Str) : Str := (spS l).getD 1 ""
def fwGo : Nat → List Str → List Str → Option (Nat × Nat)
  | _, [], _ => none
  | k, l :: r, os => if 6 ≤ k then some (k + 1, 1) else match wcol l os with
    | some c => some (k + 1, c)
    | none => fwGo (k + 1) r (os ++ [opn l])
def fw (ls : List Str) : Option (Nat × Nat) := fwGo 0 ls []
def lnsOf (t : Str) : List Str := if t = "" then [] else Txt.split t ("\n" : Str)
/-! ### texts with bounds -/
def GoodS (n : Nat) (z : Str) : Prop := z.length ≤ n ∧ ∀ c ∈ TL.tl z, c ≠ 10 ∧ c < 1000
theorem GoodS.mono {n m : Nat} {z : Str} (h : GoodS n z) (l : n ≤ m) : GoodS m z := ⟨Nat.le_trans h.1 l, h.2⟩
def LnOk (ls : List Str) : Prop := ls.length ≤ 100 ∧ ∀ l ∈ ls, GoodS 1000 l
/-! ### heaps: all but tables stays -/
def ExX (a : Addr) (H H' : Hp) : Prop := ∀ b o, b ≠ a → H b = some o → (∀ ps, o ≠ .tbl ps) → H' b = some o
abbrev lamQ : Str := ("longest_first" ++ ".<locals>." : Str) ++ "<lambda>"
abbrev T0 (P0 : Addr) : List (Addr × Str) := [(P0, lamQ)]
/-! ### the promises -/
def sp_isMark : Sp := fun vs H Q _ => ∃ w : Str, vs = [.str w] ∧ w.length ≤ 1000 ∧ ∀ H', Same H H' → Q (.bl (isMk w)) H'
def ChOk (w : Str) : Prop := ∀ c ∈ TL.tl w, c < 1000
def sp_lawIsMark : Sp := fun vs H Q _ => ∃ w : Str, vs = [.str w] ∧ w.length ≤ 1000 ∧ ChOk w ∧ ∀ H', Same H H' → Q (.bl (isMk w)) H'
def sp_optionCanStand (K : PySem.W.Frag) : Sp := fun vs H Q _ => ∃ (a : Addr) (ws : List Str) (w : Str), vs = [.ref a, .str w] ∧ SqL K H a (ws.map V.str) ∧ 4 ≤ ws.length ∧ ws.length ≤ 2000 ∧ FirstOk ws ∧ (ws.drop 4).getLast? ≠ some ("nested" : Str) ∧ (ws.drop 4).getLast? ≠ some ("escape" : Str) ∧ w.length ≤ 1000 ∧ ∀ H', Same H H' → Q (.bl (optB ws w)) H'
def sp_optionStands (K : PySem.W.Frag) : Sp := fun vs H Q _ => ∃ (a : Addr) (ws : List Str) (w : Str), vs = [.ref a, .str w] ∧ SqL K H a (ws.map V.str) ∧ 4 ≤ ws.length ∧ ws.length ≤ 2000 ∧ (∀ x ∈ ws, ChOk x) ∧ w.length ≤ 1000 ∧ ChOk w ∧ ∀ H', Same H H' → Q (.bl (optB ws w)) H'
def sp_canStand (K : PySem.W.Frag) : Sp := fun vs H Q _ => ∃ (a o : Addr) (ws os : List Str) (w : Str), vs = [.ref a, .str w, .ref o] ∧ SqL K H a (ws.map V.str) ∧ SqL K H o (os.map V.str) ∧ Vd ws os ∧ ws.length ≤ 2000 ∧ w.length ≤ 1000 ∧ ∀ H', Same H H' → Q (.bl (canB ws w os)) H'
def sp_wordStands (K : PySem.W.Frag) : Sp := fun vs H Q _ => ∃ (a o : Addr) (ws os : List Str) (w : Str), vs = [.ref a, .str w, .ref o] ∧ SqL K H a (ws.map V.str) ∧ SqL K H o (os.map V.str) ∧ ws.length ≤ 2000 ∧ (∀ x ∈ ws, ChOk x) ∧ w.length ≤ 1000 ∧ ChOk w ∧ ∀ H', Same H H' → Q (.bl (canB ws w os)) H'
def colV (d : V) : Option Nat → V
  | some c => .int (c : Int)
  | none => d
def sp_wrongColumn (K : PySem.W.Frag) : Sp := fun vs H Q _ => ∃ (o : Addr) (os : List Str) (l : Str), vs = [.str l, .ref o] ∧ SqL K H o (os.map V.str) ∧ l.length ≤ 1000 ∧ ∀ H', Same H H' → Q (colV .non (wcol l os)) H'
def sp_lawWrongColumn (K : PySem.W.Frag) : Sp := fun vs H Q _ => ∃ (o : Addr) (os : List Str) (l : Str), vs = [.str l, .ref o] ∧ SqL K H o (os.map V.str) ∧ GoodS 1000 l ∧ ∀ H', Same H H' → Q (colV (.int 0) (wcol l os)) H'
def fwV (H : Hp) (v : V) : Option (Nat × Nat) → Prop
  | none => v = .non
  | some p => ∃ b, v = .ref b ∧ H b = some (.tup [.int (p.1 : Int), .int (p.2 : Int)])
def sp_firstWrong (K : PySem.W.Frag) : Sp := fun vs H Q _ => ∃ (a : Addr) (ls : List Str), vs = [.ref a] ∧ SqL K H a (ls.map V.str) ∧ LnOk ls ∧ ∀ H' v, Same H H' → fwV H' v (fw ls) → Q v H'
/-! ### rules -/
def ruF (k op cl : Str) (nd : Nat) (es : Str) (db ln : Bool) : List (Str × V) := [("kind", .str k), ("opener", .str op), ("closer", .str cl), ("nested", .int (nd : Int)), ("escape", .str es), ("doubled", .bl db), ("line", .bl ln)]
def RuG (CR : Addr) (H : Hp) (v : V) : Prop := ∃ (a dx : Addr) (k op cl : Str) (nd : Nat) (es : Str) (db ln : Bool), v = .ref a ∧ H a = some (.ins CR dx (ruF k op cl nd es db ln)) ∧ op.length ≤ 4 ∧ cl.length ≤ 4 ∧ nd ≤ 4 ∧ es.length ≤ 4
def sp_Rule_init (K : PySem.W.Frag) (CR : Addr) : Sp := fun vs H Q _ => ∃ (a dx wa : Addr) (ws os : List Str), vs = [.ref a, .ref wa] ∧ H a = some (.ins CR dx []) ∧ SqL K H wa (ws.map V.str) ∧ CV ws os ∧ ws.length ≤ 2000 ∧
  ∀ (k cl : Str) (nd : Nat) (es : Str) (db ln : Bool), cl.length ≤ 4 → nd ≤ 4 → es.length ≤ 4 → ∀ H', (∀ b o, b ≠ a → H b = some o → H' b = some o) → H' a = some (.ins CR dx (ruF k (ws.getD 1 "") cl nd es db ln)) → Q .non H'
def ErT (CT : Addr) (H : Hp) (p : Nat × Nat) (E : XK) : Prop := ∀ (d : Addr) (H' : Hp), Same H H' → H' d = some (.xd [("column", .int (p.2 : Int)), ("line", .int (p.1 : Int))]) → E (.ref CT) (some d) H'
def sp_readRules (CR CT : Addr) : Sp := fun vs H Q E => ∃ t : Str, vs = [.str t] ∧ t.length ≤ 100000 ∧ LnOk (lnsOf t) ∧
  (fw (lnsOf t) = none → ∀ (H' : Hp) (b : Addr) (rs : List V), Same H H' → H' b = some (.tup rs) → rs.length ≤ 6 → (∀ r ∈ rs, RuG CR H' r) → Q (.ref b) H') ∧ ∀ p, fw (lnsOf t) = some p → ErT CT H p E
def sp_ruleWeight (CR : Addr) : Sp := fun vs H Q _ => ∃ v, vs = [v] ∧ RuG CR H v ∧ ∀ (i : Int) H', Same H H' → Q (.int i) H'
def MkG (K : PySem.W.Frag) (H : Hp) (v : V) : Prop := ∃ (t : Addr) (x : Str) (u : V), v = .ref t ∧ H t = some (.tup [.str x, u]) ∧ x.length ≤ 100
def sp_pieceMarks (K : PySem.W.Frag) (CR : Addr) : Sp := fun vs H Q _ => ∃ (v : V) (n d : Nat), vs = [v, .int (n : Int), .int (d : Int)] ∧ RuG CR H v ∧ ∀ (H' : Hp) (L : Addr) (ms : List V), Same H H' → H L = none → H' L = some (.lst ms) → ms.length ≤ 3 → (∀ m ∈ ms, MkG K H' m) → Q (.ref L) H'
def sp_longestFirst (K : PySem.W.Frag) (P0 : Addr) : Sp := fun vs H Q _ => ∃ (a : Addr) (xs : List V), vs = [.ref a] ∧ SqL K H a xs ∧ xs.length < 64 ∧ (∀ x ∈ xs, MkG K H x) ∧ LamX.Tabs (T0 P0) H ∧ ∀ (H' : Hp) (v : V), LamX.ExtN H H' → LamX.Tabs (T0 P0) H' → Q v H'
def sp_Reader_init (K : PySem.W.Frag) (CR CD P0 : Addr) : Sp := fun vs H Q _ => ∃ (a dx b : Addr) (rs : List V), vs = [.ref a, .ref b] ∧ H a = some (.ins CD dx []) ∧ H b = some (.tup rs) ∧ rs.length ≤ 6 ∧ (∀ r ∈ rs, RuG CR H r) ∧ LamX.Tabs (T0 P0) H ∧
  ∀ H' : Hp, ExX a H H' → LamX.Tabs (T0 P0) H' → Q .non H'
def tgF (t : Str) (rt : Addr) (wi : Int) (rd : Addr) : List (Str × V) := [("text", .str t), ("rules", .ref rt), ("weight", .int wi), ("reader", .ref rd)]
def TgAt (CG : Addr) (H : Hp) (a : Addr) (t : Str) : Prop := ∃ (dx rt : Addr) (wi : Int) (rd : Addr), H a = some (.ins CG dx (tgF t rt wi rd)) ∧ H rt = some (.tup ((lnsOf t).map V.str))
def sp_Tongue_init (CG CT P0 : Addr) : Sp := fun vs H Q E => ∃ (a dx : Addr) (t : Str), vs = [.ref a, .str t] ∧ H a = some (.ins CG dx []) ∧ t.length ≤ 100000 ∧ LnOk (lnsOf t) ∧ LamX.Tabs (T0 P0) H ∧
  (fw (lnsOf t) = none → ∀ H' : Hp, ExX a H H' → LamX.Tabs (T0 P0) H' → TgAt CG H' a t → Q .non H') ∧ ∀ p, fw (lnsOf t) = some p → ErT CT H p E
def sp_Tongue_len (CG : Addr) : Sp := fun vs H Q _ => ∃ (a : Addr) (t : Str), vs = [.ref a] ∧ TgAt CG H a t ∧ (lnsOf t).length ≤ 100 ∧ Q (.int ((lnsOf t).length : Int)) H
def EqG (CG : Addr) (a b : Addr) (r : Bool) (H : Hp) : Prop := ∃ t u, TgAt CG H a t ∧ TgAt CG H b u ∧ r = decide (t = u)
def sp_Tongue_eq (CG : Addr) : Sp := spEqI (EqG CG)
def sp_toldTongue (K : PySem.W.Frag) (P0 : Addr) : Sp := fun vs H Q _ => ∃ (t : Str) (a : Addr), vs = [.str t, .ref a] ∧ SqL K H a ((lnsOf t).map V.str) ∧ t.length ≤ 100000 ∧ LnOk (lnsOf t) ∧ LamX.Tabs (T0 P0) H ∧
  ∀ (H' : Hp) (v : V), LamX.ExtN H H' → LamX.Tabs (T0 P0) H' → fwV H' v (fw (lnsOf t)) → Q v H'
/-! ### the law's drawing -/
def one (c : Nat) : V := .str (S [c])
def SgOk (l : List Nat) : Prop := 1 ≤ l.length ∧ l.length ≤ 100 ∧ ∀ c ∈ l, c ≠ 10 ∧ c < 1000
def sp_markSigns : Sp := fun vs H Q _ => vs = [] ∧ ∀ (H' : Hp) (a : Addr), Same H H' → H a = none → H' a = some (.lst (mkL.map one)) → Q (.ref a) H'
def sp_allSigns : Sp := fun vs H Q _ => vs = [] ∧ ∀ (H' : Hp) (a : Addr) (l : List Nat), Same H H' → H a = none → SgOk l → H' a = some (.lst (l.map one)) → Q (.ref a) H'
def sp_lawWord : Sp := fun vs H Q _ => ∃ (p c a : Addr) (m n : Nat) (l : List Nat), vs = [.ref p, .ref a, .int (n : Int)] ∧ PenAt H p c m ∧ m < 900000 ∧ H a = some (.lst (l.map one)) ∧ SgOk l ∧ 1 ≤ n ∧ n ≤ 10 ∧
  ∀ (H' : Hp) (t : List Nat), Ks H H' → PenAt H' p c (m + 1 + n) → 1 ≤ t.length → t.length ≤ n → (∀ x ∈ t, x ∈ l) → Q (.str (S t)) H'
def sp_some : Sp := fun vs H Q _ => ∃ (p c a : Addr) (m n : Nat) (l : List Nat), vs = [.ref p, .ref a, .int (n : Int)] ∧ PenAt H p c m ∧ m < 900000 ∧ H a = some (.lst (l.map one)) ∧ 1 ≤ n ∧ n ≤ 10 ∧ n ≤ l.length ∧ l.length ≤ 100 ∧
  ∀ (H' : Hp) (b : Addr) (t : List Nat), Ks H H' → PenAt H' p c (m + n) → H' b = some (.lst (t.map one)) → t.length = n → (∀ x ∈ t, x ∈ l) → Q (.ref b) H'
def r7 (k o c : Str) (d : Nat) (e : Str) (b1 b2 : Bool) : List V := [.str k, .str o, .str c, .int (d : Int), .str e, .bl b1, .bl b2]
def R7 (v : V) (H : Hp) : Prop := ∃ (a : Addr) (k o c : Str) (d : Nat) (e : Str) (b1 b2 : Bool), v = .ref a ∧ H a = some (.tup (r7 k o c d e b1 b2)) ∧ GoodS 8 k ∧ GoodS 8 o ∧ GoodS 8 c ∧ d ≤ 4 ∧ GoodS 8 e
theorem R7.tk {v : V} {H H' : Hp} (h : R7 v H) (s : Tk H H') : R7 v H' := let ⟨a, k, o, c, d, e, b1, b2, h1, h2, h3⟩ := h; ⟨a, k, o, c, d, e, b1, b2, h1, s _ _ h2, h3⟩
def sp_newRule : Sp := fun vs H Q _ => ∃ (p c a : Addr) (m : Nat) (o : Str) (l : List Nat), vs = [.ref p, .str o, .ref a, .int 4] ∧ PenAt H p c m ∧ m < 800000 ∧ GoodS 8 o ∧ H a = some (.lst (l.map one)) ∧ SgOk l ∧
  ∀ (H' : Hp) (v : V), Ks H H' → PenAt H' p c (m + 20) → R7 v H' → Q v H'
def sp_newRules : Sp := fun vs H Q _ => ∃ (p c : Addr) (m n : Nat), vs = [.ref p, .int (n : Int), .int 4] ∧ PenAt H p c m ∧ m < 700000 ∧ 1 ≤ n ∧ n ≤ 8 ∧
  ∀ (H' : Hp) (b : Addr) (rs : List V), Ks H H' → PenAt H' p c (m + 400) → H' b = some (.lst rs) → 1 ≤ rs.length → rs.length ≤ 8 → (∀ r ∈ rs, R7 r H') → Q (.ref b) H'
def sp_ruleLine : Sp := fun vs H Q _ => ∃ v, vs = [v] ∧ R7 v H ∧ ∀ (H' : Hp) (z : Str), Same H H' → GoodS 100 z → Q (.str z) H'
def sp_oddWords : Sp := fun vs H Q _ => ∃ (a : Addr) (ms : List Str), vs = [.ref a] ∧ H a = some (.lst (ms.map V.str)) ∧ ms.length ≤ 8 ∧ (∀ z ∈ ms, GoodS 10 z) ∧
  ∀ (H' : Hp) (b : Addr) (zs : List Str), Same H H' → H' b = some (.lst (zs.map V.str)) → 1 ≤ zs.length → zs.length ≤ 100 → (∀ z ∈ zs, GoodS 10 z) → Q (.ref b) H'
def sp_spoiled : Sp := fun vs H Q _ => ∃ (p c a b : Addr) (m n : Nat) (ls ms : List Str), vs = [.ref p, .ref a, .ref b] ∧ PenAt H p c m ∧ m < 800000 ∧ H a = some (.lst (ls.map V.str)) ∧ H b = some (.lst (ms.map V.str)) ∧ ms.length ≤ 8 ∧ (∀ z ∈ ms, GoodS 10 z) ∧
  1 ≤ ls.length ∧ ls.length ≤ 50 ∧ n ≤ 500 ∧ (∀ z ∈ ls, GoodS n z) ∧
  ∀ (H' : Hp) (d : Addr) (zs : List Str), Ks H H' → PenAt H' p c (m + 10) → H' d = some (.lst (zs.map V.str)) → 1 ≤ zs.length → zs.length ≤ ls.length + 1 → (∀ z ∈ zs, GoodS (n + 20) z) → Q (.ref d) H'
def sp_law (K : PySem.W.Frag) (P0 : Addr) : Sp := fun vs H Q _ => ∃ (a : Addr) (ns : List Int), vs = [.ref a] ∧ SqL K H a (ns.map V.int) ∧ ns.length ≤ 63 ∧ H P0 = some (.tbl #[]) ∧ ∀ H', Q (.bl true) H'
/-! ### the classes -/
structure Ca (K : PySem.W.Frag) (CR CD CG : Addr) : Prop where
  iR : C8.InsC K CR
  iD : C8.InsC K CD
  iG : C8.InsC K CG
  r1 : NoAttr K CR "kind"
  r2 : NoAttr K CR "opener"
  r3 : NoAttr K CR "closer"
  r4 : NoAttr K CR "nested"
  r5 : NoAttr K CR "escape"
  r6 : NoAttr K CR "doubled"
  r7 : NoAttr K CR "line"
  d1 : NoAttr K CD "parts"
  d2 : NoAttr K CD "_marks"
  g1 : NoAttr K CG "text"
  g2 : NoAttr K CG "rules"
  g3 : NoAttr K CG "weight"
  g4 : NoAttr K CG "reader"
structure Eqc (P : Program) (w : World) (K : PySem.W.Frag) (mg : Str → Option Value) (base : Heap) (k : Nat) (C : Addr) (R : Addr → Addr → Bool → Hp → Prop) : Prop where
  ex : ∃ (f : Addr) (fd : FuncData) (ps : List Str), OwnC K C f ∧ FnOk P w K mg base C8.CX0 k f fd ps (spEqI R) ∧ Binds K fd ps []
section
variable {X : Cx} {C : Addr} {R : Addr → Addr → Bool → Hp → Prop} {k j : Nat}
theorem op_eqC (c : Eqc X.prog X.w X.K X.mg X.base k C R) (hr : Room j X.A) (hj : k ≤ j) : OpR X (compareOp .Eq) (rEqI C false R) := by
  obtain ⟨f, fd, ps, O, F, b⟩ := c.ex
  exact op_eqI O F b hr hj
theorem op_eqI2 (c : Eqc X.prog X.w X.K X.mg X.base k C R) (hr : Room j X.A) (hj : k ≤ j) {r : R2} (hu : OpR X (compareOp .Eq) r) : OpR X (compareOp .Eq) (fun x y H Q => r x y H Q ∨ rEqI C false R x y H Q) := op_alt hu (op_eqC c hr hj)
end

end
end Vf

set_option maxRecDepth 100000
set_option maxHeartbeats 4000000
namespace Vf
open PySem PySem.Spec PyProof.Rows L2 SX
section
variable {P : Program} {w : World} {K : PySem.W.Frag} {mg : Str → Option Value} {base : Heap}
theorem ify {c : Bool} {A B : Prop} (h : c = true) (x : A) : if c = true then A else B := by rw [if_pos h]; exact x
theorem ifn {c : Bool} {A B : Prop} (h : c = false) (x : B) : if c = true then A else B := by rw [if_neg (by rw [h]; exact Bool.false_ne_true)]; exact x
theorem cut_to (xs : List V) (n : Nat) : cutV xs none (some (n : Int)) = xs.take n := by
  unfold cutV
  rw [HT.sIx_nat, HT.sIx_none]
  show (xs.take (min n xs.length - 0)) = _
  rw [Nat.sub_zero]
  by_cases h : n ≤ xs.length
  · rw [Nat.min_eq_left h]
  · rw [Nat.min_eq_right (by omega), List.take_of_length_le (Nat.le_refl _), List.take_of_length_le (by omega)]
theorem cut_from (xs : List V) (n : Nat) : cutV xs (some (n : Int)) none = xs.drop n := by
  unfold cutV
  rw [HT.sIx_nat, HT.sIx_none]
  by_cases h : n ≤ xs.length
  · rw [Nat.min_eq_left h, List.take_of_length_le (by rw [List.length_drop]; omega)]
  · rw [Nat.min_eq_right (by omega), List.drop_eq_nil_of_le (Nat.le_refl _), List.drop_eq_nil_of_le (by omega), List.take_nil]
theorem inV_strs (w : Str) (l : List Str) : inV (.str w) (l.map V.str) = decide (w ∈ l) := by
  unfold inV
  rw [List.any_map]
  by_cases h : w ∈ l
  · rw [decide_eq_true h]
    exact List.any_eq_true.mpr ⟨w, h, by show (w == w) = true; exact beq_self_eq_true _⟩
  · rw [decide_eq_false h]
    refine List.any_eq_false.mpr fun y hy => ?_
    show ¬ (y == w) = true
    intro z
    rw [beq_iff_eq] at z
    exact h (z ▸ hy)
theorem flat_strs (l : List Str) : (l.map V.str).all flatV = true := List.all_eq_true.mpr fun x hx => by
  obtain ⟨w, _, rfl⟩ := List.mem_map.mp hx
  rfl
theorem dS (a b : Str) : decide (V.str a = V.str b) = decide (a = b) := decide_eq_decide.mpr ⟨fun z => V.str.inj z, fun z => by rw [z]⟩
theorem dI (a b : Int) : decide (V.int a = V.int b) = decide (a = b) := decide_eq_decide.mpr ⟨fun z => V.int.inj z, fun z => by rw [z]⟩
theorem dB (a b : Bool) : decide (V.bl a = V.bl b) = decide (a = b) := decide_eq_decide.mpr ⟨fun z => V.bl.inj z, fun z => by rw [z]⟩
theorem at_strs {ws : List Str} {i : Nat} (h : i < ws.length) : atI (ws.map V.str) ((i : Nat) : Int) = some (.str ws[i]) := atI_nat (by rw [List.getElem?_map, List.getElem?_eq_getElem h]; rfl)
theorem getD_at {ws : List Str} {i : Nat} (h : i < ws.length) : ws.getD i "" = ws[i] := by
  rw [List.getD_eq_getElem?_getD, List.getElem?_eq_getElem h]; rfl
/-! ### words -/
theorem spl_bnd (S0 : List Nat) : ∀ (l acc : List Nat) (k : Nat), (TL.spl S0 k acc l).length ≤ l.length + 1 ∧ (∀ p ∈ TL.spl S0 k acc l, p.length ≤ acc.length + l.length) ∧ 1 ≤ (TL.spl S0 k acc l).length
  | [], acc, k => by
    rw [TL.spl_nil]
    exact ⟨Nat.le_refl _, fun p hp => by rw [List.mem_singleton.mp hp]; exact Nat.le_add_right _ _, Nat.le_refl _⟩
  | c :: r, acc, 0 => by
    by_cases e : TL.pre S0 (c :: r) = true
    · rw [TL.spl_hit e]
      obtain ⟨h1, h2, h3⟩ := spl_bnd S0 r [] (S0.length - 1)
      refine ⟨by rw [List.length_cons, List.length_cons]; omega, fun p hp => ?_, by rw [List.length_cons]; omega⟩
      rcases List.mem_cons.mp hp with rfl | hp
      · exact Nat.le_add_right _ _
      · have := h2 p hp
        rw [List.length_nil] at this
        rw [List.length_cons]; omega
    · rw [TL.spl_miss (Bool.eq_false_iff.mpr e)]
      obtain ⟨h1, h2, h3⟩ := spl_bnd S0 r (acc ++ [c]) 0
      refine ⟨by rw [List.length_cons]; omega, fun p hp => ?_, h3⟩
      have := h2 p hp
      rw [List.length_append, List.length_singleton] at this
      rw [List.length_cons]; omega
  | c :: r, acc, k + 1 => by
    obtain ⟨h1, h2, h3⟩ := spl_bnd S0 r acc k
    show (TL.spl S0 k acc r).length ≤ _ ∧ (∀ p ∈ TL.spl S0 k acc r, _) ∧ 1 ≤ (TL.spl S0 k acc r).length
    exact ⟨by rw [List.length_cons]; omega, fun p hp => by have := h2 p hp; rw [List.length_cons]; omega, h3⟩
theorem split_bnd {x y : Str} (hy : TL.tl y ≠ []) (hk : ¬ Builtin.Str.strKind x < Builtin.Str.strKind y) : (Txt.split x y).length ≤ x.length + 1 ∧ (∀ w ∈ Txt.split x y, w.length ≤ x.length) ∧ 1 ≤ (Txt.split x y).length := by
  have e := TL.split_spl x y hy hk
  obtain ⟨h1, h2, h3⟩ := spl_bnd (TL.tl y) (TL.tl x) [] 0
  rw [← e, List.length_map] at h1 h3
  refine ⟨by rw [TL.len_tl x]; exact h1, fun w hw => ?_, h3⟩
  have := h2 (TL.tl w) (by rw [← e]; exact List.mem_map_of_mem hw)
  rw [List.length_nil, Nat.zero_add] at this
  rw [TL.len_tl, TL.len_tl]; exact this
theorem spS_bnd (l : Str) : (spS l).length ≤ l.length + 1 ∧ (∀ w ∈ spS l, w.length ≤ l.length) ∧ 1 ≤ (spS l).length := split_bnd (by decide +kernel) (TL.kind_ok (by decide +kernel))
/-- the lines of joined lines -/
theorem lns_join {ls : List Str} (h : ls ≠ []) (hn : ∀ l ∈ ls, ∀ c ∈ TL.tl l, c ≠ 10) : Txt.split (Txt.join ("\n" : Str) ls) ("\n" : Str) = ls := by
  refine TL.map_tl_inj ?_
  rw [TL.split_spl _ _ (by decide +kernel) (TL.kind_ok (by decide +kernel))]
  have e : TL.tl (Txt.join ("\n" : Str) ls) = TL.joinL (TL.tl ("\n" : Str)) (ls.map TL.tl) := by
    rw [TL.join_eq]
    exact TL.tl_join _ _
  rw [e, show TL.tl ("\n" : Str) = [10] from by decide +kernel]
  refine TL.spl_join (by intro z; exact h (List.map_eq_nil_iff.mp z)) fun p hp hc => ?_
  obtain ⟨l, hl, rfl⟩ := List.mem_map.mp hp
  exact hn l hl 10 hc rfl
/-! ### options with a word behind them -/
theorem idx_first {g : List Str} {o : Str} (h : o ∈ g) : g[g.idxOf o]? = some o ∧ ∀ m, m < g.idxOf o → g[m]? ≠ some o := by
  have hl := List.idxOf_lt_length_iff.mpr h
  refine ⟨by rw [List.getElem?_eq_getElem hl, List.getElem_idxOf], fun m hm z => ?_⟩
  have hm2 := (List.getElem?_eq_some_iff.mp z)
  obtain ⟨q, e⟩ := hm2
  have := List.not_of_lt_findIdx hm
  rw [e, beq_self_eq_true] at this
  cases this
theorem opt_next {ws os : List Str} (h : CV ws os) {o : Str} (ho : o = "nested" ∨ o = "escape") (hm : o ∈ ws.drop 4) : ∃ w, (ws.drop 4)[(ws.drop 4).idxOf o + 1]? = some w ∧ (o = "nested" → w ∈ (["2", "3", "4"] : List Str)) ∧ (o = "escape" → w.length = 1 ∧ isMk w = true) := by
  obtain ⟨h1, h2, h3, h4⟩ := h
  obtain ⟨e1, _⟩ := idx_first hm
  have hl := List.idxOf_lt_length_iff.mpr hm
  generalize hj : (ws.drop 4).idxOf o = j at e1 hl
  have g4 : 4 < ws.length := by rw [List.length_drop] at hl; omega
  have hlt : j + 1 < (ws.drop 4).length := by
    rcases Nat.lt_or_ge (j + 1) (ws.drop 4).length with z | z
    · exact z
    · have e : j = (ws.drop 4).length - 1 := by omega
      have : (ws.drop 4).getLast? = some o := by rw [List.getLast?_eq_getElem?, ← e]; exact e1
      rw [last_drop g4] at this
      rcases ho with rfl | rfl
      · exact absurd this h3
      · exact absurd this h4
  refine ⟨(ws.drop 4)[j + 1], List.getElem?_eq_getElem hlt, ?_⟩
  have hi : 4 + (j + 1) < ws.length := by rw [List.length_drop] at hlt; omega
  have c := vd_at h1 hi
  have ew : (ws.drop 4)[j + 1] = ws[4 + (j + 1)] := List.getElem_drop
  rw [← ew] at c
  unfold canB at c
  have el : (ws.take (4 + (j + 1))).length = 4 + (j + 1) := by rw [List.length_take]; omega
  rw [el, if_neg (by omega), if_neg (by omega), if_neg (by omega), if_neg (by omega)] at c
  have ed : (ws.take (4 + (j + 1))).drop 4 = (ws.drop 4).take (j + 1) := by rw [List.drop_take]; congr 1; omega
  have eg : ((ws.drop 4).take (j + 1)).getLast? = some o := by
    rw [List.getLast?_eq_getElem?, List.length_take, Nat.min_eq_left (by omega), Nat.add_sub_cancel, List.getElem?_take, if_pos (by omega)]
    exact e1
  unfold optB at c
  rw [ed, eg] at c
  rcases ho with rfl | rfl
  · rw [if_pos rfl, decide_eq_true_eq] at c
    exact ⟨fun _ => c, fun z => absurd z (by decide +kernel)⟩
  · rw [if_neg (by decide +kernel), if_pos rfl, Bool.and_eq_true, decide_eq_true_eq] at c
    exact ⟨fun z => absurd z (by decide +kernel), fun _ => c⟩
theorem mk_len {w : Str} (h : isMk w = true) : 1 ≤ w.length ∧ w.length ≤ 4 := by
  unfold isMk at h
  rw [Bool.and_eq_true, Bool.and_eq_true, decide_eq_true_eq, decide_eq_true_eq] at h
  exact ⟨h.1, h.2.1⟩
theorem vd_0 {ws os : List Str} (h : Vd ws os) (hl : 0 < ws.length) : ws[0] = "remark" ∨ ws[0] = "quote" := by
  have c := vd_at h hl
  unfold canB at c
  rw [List.take_zero, if_pos (show ([] : List Str).length = 0 from rfl), decide_eq_true_eq] at c
  simpa using c
theorem vd_1 {ws os : List Str} (h : Vd ws os) (hl : 1 < ws.length) : isMk ws[1] = true := by
  have c := vd_at h hl
  unfold canB at c
  have e : (ws.take 1).length = 1 := by rw [List.length_take]; omega
  rw [e, if_neg (by decide), if_pos rfl, Bool.and_eq_true] at c
  exact c.1
/-! ### frames -/
theorem ExX.of {a : Addr} {H H' : Hp} (s : Same H H') : ExX a H H' := fun b o _ e _ => s b o e
theorem ExX.trans {a : Addr} {H H1 H2 : Hp} (s : ExX a H H1) (t : ExX a H1 H2) : ExX a H H2 := fun b o n e m => t b o n (s b o n e m) m
theorem ExX.ext {a : Addr} {H H' : Hp} (s : LamX.ExtN H H') : ExX a H H' := fun b o _ e m => s b o e m
theorem extN_same {H H' : Hp} (s : Same H H') : LamX.ExtN H H' := fun b o e _ => s b o e
theorem tabs_same {T : List (Addr × Str)} {H H' : Hp} (t : LamX.Tabs T H) (s : Same H H') : LamX.Tabs T H' := t.ext s
theorem tabs_ks {T : List (Addr × Str)} {H H' : Hp} (t : LamX.Tabs T H) (k : Ks H H') : LamX.Tabs T H' := fun p hp => by
  obtain ⟨ps, h1, h2, h3⟩ := t p hp
  refine ⟨ps, k.1 _ _ h1 (fun _ z => nomatch z), h2, fun pos cv hc => ?_⟩
  obtain ⟨c, e1, e2⟩ := h3 pos cv hc
  exact ⟨c, e1, k.1 _ _ e2 (fun _ z => by unfold LamX.CodeO at z; cases z)⟩
theorem tabs_upd {T : List (Addr × Str)} {H : Hp} {L : Addr} {u o : HO} (t : LamX.Tabs T H) (h : H L = some u) (n1 : ∀ ps, u ≠ .tbl ps) (n2 : ∀ c q, u ≠ LamX.CodeO c q) : LamX.Tabs T (upd H L o) := fun p hp => by
  obtain ⟨ps, h1, h2, h3⟩ := t p hp
  refine ⟨ps, by rw [upd_ne fun z => by rw [z, h] at h1; exact n1 _ (Option.some.inj h1)]; exact h1, h2, fun pos cv hc => ?_⟩
  obtain ⟨c, e1, e2⟩ := h3 pos cv hc
  exact ⟨c, e1, by rw [upd_ne fun z => by rw [z, h] at e2; exact n2 _ _ (Option.some.inj e2)]; exact e2⟩
theorem RuG.ext {CR : Addr} {H H' : Hp} {v : V} (h : RuG CR H v) (s : LamX.ExtN H H') : RuG CR H' v := let ⟨a, dx, k, op, cl, nd, es, db, ln, e, h1, h2⟩ := h; ⟨a, dx, k, op, cl, nd, es, db, ln, e, s _ _ h1 (fun _ z => nomatch z), h2⟩
theorem MkG.ext {K : PySem.W.Frag} {H H' : Hp} {v : V} (h : MkG K H v) (s : LamX.ExtN H H') : MkG K H' v := let ⟨t, x, u, e, h1, h2⟩ := h; ⟨t, x, u, e, s _ _ h1 (fun _ z => nomatch z), h2⟩
theorem strOk_S {l : List Nat} (h : ∀ c ∈ l, c < 1000) : PyData.strOk (S l) = true := by
  unfold PyData.strOk
  show l.toArray.all _ = true
  rw [List.all_toArray]
  exact List.all_eq_true.mpr fun c hc => decide_eq_true (by have := h c hc; omega)
theorem one_list (l : List Nat) : (l.map one) = l.map fun c => V.str (S [c]) := rfl
section
variable {K : PySem.W.Frag} {a : Addr} {xs : List V}
theorem walk_enumK {k0 : Int} : Walk (IteK K a k0) xs.length (fun H => SqL K H a xs) (YPair (fun i => some (.int (k0 + (i : Nat)))) (fun i => xs[i]?)) := by
  refine ⟨fun i _ hi q => ⟨xs, xs[i], q, by simp [hi]⟩, fun _ q => ⟨xs, q, rfl⟩, fun i H v H' _ q y => ?_⟩
  obtain ⟨T, x, h1, h2, h3, h4⟩ := y
  exact ⟨T, .int (k0 + (i : Nat)), x, h1, h2, h3, rfl, h4 xs q⟩
theorem walk_enumT : Walk (IteT K a) xs.length (fun H => SqT K H a xs) (YPair (fun i => some (.int (i : Nat))) (fun i => xs[i]?)) := by
  refine ⟨fun i _ hi q => ⟨xs, xs[i], q, by simp [hi]⟩, fun _ q => ⟨xs, q, rfl⟩, fun i H v H' _ q y => ?_⟩
  obtain ⟨T, x, h1, h2, h3, h4⟩ := y
  exact ⟨T, .int (i : Nat), x, h1, h2, h3, rfl, h4 xs q⟩
end
theorem isMk_lt {w : Str} : isMk w = (decide (1 ≤ w.length) && decide (w.length ≤ 4) && (TL.tl w).all fun c => decide (c ∈ mkL)) := by unfold isMk; rw [Bool.and_assoc]
theorem same_refl (H : Hp) : Same H H := fun _ _ z => z
theorem same1 {H : Hp} {p : Addr} (h : H p = none) (o : HO) : Same H (upd H p o) := same_new (same_refl H) h o
theorem slT_from {K : PySem.W.Frag} {H : Hp} {a : Addr} {xs : List V} {Q : VK} (j : Nat) (h : SqT K H a xs) (q : ∀ b H', Same H H' → SqT K H' b (xs.drop j) → Q (.ref b) H') : rSlA K (.ref a) (some (j : Int)) none H Q := by
  refine ⟨a, xs, rfl, h, fun w => ?_, fun w p hp => ?_⟩
  · have e : xs.drop j = xs := by
      have w1 := w.1
      rw [HT.sIx_nat] at w1
      by_cases hj : j = 0
      · rw [hj, List.drop_zero]
      · have : xs.length = 0 := by omega
        rw [List.length_eq_zero_iff.mp this, List.drop_nil]
    exact q a H (same_refl H) (by rw [e]; exact h)
  · rw [cut_from]
    exact q p _ (same1 hp _) (SqT.of upd_same)
theorem slT_to {K : PySem.W.Frag} {H : Hp} {a : Addr} {xs : List V} {Q : VK} (j : Nat) (h : SqT K H a xs) (q : ∀ b H', Same H H' → SqT K H' b (xs.take j) → Q (.ref b) H') : rSlA K (.ref a) none (some (j : Int)) H Q := by
  refine ⟨a, xs, rfl, h, fun w => ?_, fun w p hp => ?_⟩
  · have e : xs.take j = xs := by
      have w1 := w.2
      rw [HT.sIx_nat] at w1
      exact List.take_of_length_le (by omega)
    exact q a H (same_refl H) (by rw [e]; exact h)
  · rw [cut_to]
    exact q p _ (same1 hp _) (SqT.of upd_same)
theorem strs_drop (ws : List Str) (n : Nat) : (ws.map V.str).drop n = (ws.drop n).map V.str := (List.map_drop ..).symm
theorem strs_take (ws : List Str) (n : Nat) : (ws.map V.str).take n = (ws.take n).map V.str := (List.map_take ..).symm
theorem sqT_same {K : PySem.W.Frag} {H H' : Hp} {a : Addr} {xs : List V} (s : Same H H') (h : SqT K H a xs) : SqT K H' a xs := (Ks.of s).seqT h
theorem sqL_same {K : PySem.W.Frag} {H H' : Hp} {a : Addr} {xs : List V} (s : Same H H') (h : SqL K H a xs) : SqL K H' a xs := (Ks.of s).seq h
theorem at_lastS {ws : List Str} (h : ws ≠ []) : ∃ u, ws.getLast? = some u ∧ atI (ws.map V.str) (-1) = some (.str u) := by
  refine ⟨ws.getLast h, List.getLast?_eq_some_getLast h, ?_⟩
  have e : ws.map V.str = ws.dropLast.map V.str ++ [V.str (ws.getLast h)] := by
    conv => lhs; rw [← List.dropLast_concat_getLast h]
    rw [List.map_append]; rfl
  rw [e]
  exact atI_last _ _
theorem truL {K : PySem.W.Frag} {H : Hp} {a : Addr} {xs : List V} (h : SqL K H a xs) : TruV K (.ref a) H (!xs.isEmpty) := .inl ⟨xs, h, rfl⟩
theorem dN (a b : Nat) : decide (V.int (a : Int) = V.int (b : Int)) = decide (a = b) := decide_eq_decide.mpr ⟨fun z => by have := V.int.inj z; omega, fun z => by rw [z]⟩
theorem wcGo_cons (os ah : List Str) (w : Str) (r : List Str) (c : Nat) : wcGo os ah (w :: r) c = if canB ah w os = true then wcGo os (ah ++ [w]) r (c + (w.length + 1)) else some c := rfl
theorem fwGo_cons (k : Nat) (l : Str) (r os : List Str) : fwGo k (l :: r) os = if 6 ≤ k then some (k + 1, 1) else match wcol l os with
    | some c => some (k + 1, c)
    | none => fwGo (k + 1) r (os ++ [opn l]) := rfl
theorem sqL_ins {K : PySem.W.Frag} {H : Hp} {a b C dx : Addr} {fs : List (Str × V)} {xs : List V} {o : HO} (h : SqL K H b xs) (e : H a = some (.ins C dx fs)) : SqL K (upd H a o) b xs := by
  rcases h with (h | ⟨o', h⟩) | h
  · exact .inl (.inl (by rw [upd_ne (ne_of h e fun z => nomatch z)]; exact h))
  · exact .inl (.inr ⟨o', by rw [upd_ne (ne_of h e fun z => nomatch z)]; exact h⟩)
  · exact .inr h
theorem ins_keep {H : Hp} {a : Addr} {o : HO} : ∀ b u, b ≠ a → H b = some u → (upd H a o) b = some u := fun b u n e => by rw [upd_ne n]; exact e
theorem RuG.updL {CR : Addr} {H : Hp} {v : V} {R : Addr} {xs : List V} {o : HO} (h : RuG CR H v) (e : H R = some (.lst xs)) : RuG CR (upd H R o) v := let ⟨a, dx, k, op, cl, nd, es, db, ln, ev, h1, h2⟩ := h; ⟨a, dx, k, op, cl, nd, es, db, ln, ev, by rw [upd_ne (ne_of h1 e fun z => nomatch z)]; exact h1, h2⟩
theorem RuG.same {CR : Addr} {H H' : Hp} {v : V} (h : RuG CR H v) (s : Same H H') : RuG CR H' v := h.ext (extN_same s)
theorem str_ne0 (t : Str) : ((t.length : Int) != 0) = decide (t ≠ "") := by
  by_cases h : t = ""
  · subst h; decide +kernel
  · rw [decide_eq_true h]
    have : t.length ≠ 0 := fun z => h (TL.ext_tl (List.length_eq_zero_iff.mp (by rw [← TL.len_tl]; exact z)))
    rw [bne_iff_ne]
    omega
theorem call_lenK {X : Cx} {K : PySem.W.Frag} (hK : X.K = K) : CallR X (.builtin "len") (fun xs H Q => ∃ x n, xs = [x] ∧ LenV K x H n ∧ Q (.int ((n : Nat) : Int)) H) := by subst hK; exact call_len
def PInv (K : PySem.W.Frag) (H : Hp) (L : Addr) (j : Nat) (ms : List V) (H' : Hp) : Prop := H' L = some (.lst ms) ∧ Same H H' ∧ ms.length ≤ j ∧ ∀ m ∈ ms, MkG K H' m
theorem pinv_up {K : PySem.W.Frag} {H : Hp} {L : Addr} {j : Nat} {ms : List V} {H' : Hp} (h : PInv K H L j ms H') : PInv K H L (j + 1) ms H' := ⟨h.1, h.2.1, Nat.le_succ_of_le h.2.2.1, h.2.2.2⟩
theorem pinv_push {K : PySem.W.Frag} {H H1 H2 : Hp} {L t : Addr} {j : Nat} {ms : List V} {x : Str} {u : V} (hL : H L = none) (h : PInv K H L j ms H1) (s : Same H1 H2) (ht : H2 t = some (.tup [.str x, u])) (hx : x.length ≤ 100) : PInv K H L (j + 1) (ms ++ [.ref t]) (upd H2 L (.lst (ms ++ [.ref t]))) := by
  obtain ⟨h1, h2, h3, h4⟩ := h
  have hL2 := s _ _ h1
  refine ⟨upd_same, fun b o z => by rw [upd_ne (ne_of_none z hL)]; exact s _ _ (h2 b o z), by rw [List.length_append, List.length_singleton]; omega, fun m hm => ?_⟩
  have keep : ∀ {b : Addr} {xs : List V}, H2 b = some (.tup xs) → (upd H2 L (.lst (ms ++ [.ref t]))) b = some (.tup xs) := fun z => by rw [upd_ne (ne_of z hL2 fun y => nomatch y)]; exact z
  rcases List.mem_append.mp hm with hm | hm
  · obtain ⟨t', x', u', e, e1, e2⟩ := h4 m hm
    exact ⟨t', x', u', e, keep (s _ _ e1), e2⟩
  · exact ⟨t, x, u, List.mem_singleton.mp hm, keep ht, hx⟩
theorem sqT_upd {K : PySem.W.Frag} {H : Hp} {p b : Addr} {u o : HO} {xs : List V} (h : SqT K H b xs) (e : H p = some u) (n1 : ∀ xs, u ≠ .tup xs) (n2 : ∀ o' u', u ≠ .frz o' u') : SqT K (upd H p o) b xs := by
  rcases h with (h | ⟨o', h⟩) | h
  · exact .inl (.inl (by rw [upd_ne (ne_of h e fun z => n1 _ z.symm)]; exact h))
  · exact .inl (.inr ⟨o', by rw [upd_ne (ne_of h e fun z => n2 _ _ z.symm)]; exact h⟩)
  · exact .inr h
theorem sqT_ext {K : PySem.W.Frag} {H H' : Hp} {b : Addr} {xs : List V} (h : SqT K H b xs) (e : LamX.ExtN H H') : SqT K H' b xs := by
  rcases h with (h | ⟨o', h⟩) | h
  · exact .inl (.inl (e _ _ h fun _ z => nomatch z))
  · exact .inl (.inr ⟨o', e _ _ h fun _ z => nomatch z⟩)
  · exact .inr h
theorem dx_ne {P : Program} {w : World} {a : Addr} {xs : List Ent} : (∀ ps, DX P w a xs ≠ .tbl ps) ∧ (∀ ys, DX P w a xs ≠ .tup ys) ∧ (∀ o u, DX P w a xs ≠ .frz o u) := ⟨fun _ z => (nomatch z), fun _ z => (nomatch z), fun _ _ z => nomatch z⟩
theorem EntsAt.ext {K : PySem.W.Frag} {H H' : Hp} {xs : List Ent} (h : EntsAt K H xs) (e : LamX.ExtN H H') : EntsAt K H' xs := fun q hq => sqT_ext (h q hq) e
theorem EntsAt.updX {P : Program} {w : World} {K : PySem.W.Frag} {H : Hp} {p : Addr} {xs ys : List Ent} {o : HO} (h : EntsAt K H xs) (e : H p = some (DX P w p ys)) : EntsAt K (upd H p o) xs := fun q hq => sqT_upd (h q hq) e dx_ne.2.1 dx_ne.2.2
theorem tabs_updN {T : List (Addr × Str)} {H : Hp} {L : Addr} {u o : HO} (t : LamX.Tabs T H) (h : H L = some u) (n1 : ∀ ps, u ≠ .tbl ps) (n2 : NoCode H L) : LamX.Tabs T (upd H L o) := fun p hp => by
  obtain ⟨ps, h1, h2, h3⟩ := t p hp
  refine ⟨ps, by rw [upd_ne fun z => by rw [z, h] at h1; exact n1 _ (Option.some.inj h1)]; exact h1, h2, fun pos cv hc => ?_⟩
  obtain ⟨c, e1, e2⟩ := h3 pos cv hc
  exact ⟨c, e1, by rw [upd_ne (n2 c _ e2)]; exact e2⟩
theorem sqL_ext {K : PySem.W.Frag} {H H' : Hp} {b : Addr} {xs : List V} (h : SqL K H b xs) (e : LamX.ExtN H H') : SqL K H' b xs := by
  rcases h with (h | ⟨o', h⟩) | h
  · exact .inl (.inl (e _ _ h fun _ z => nomatch z))
  · exact .inl (.inr ⟨o', e _ _ h fun _ z => nomatch z⟩)
  · exact .inr h
theorem spl_ch (S0 : List Nat) : ∀ (l acc : List Nat) (k : Nat) (p : List Nat), p ∈ TL.spl S0 k acc l → ∀ c ∈ p, c ∈ acc ∨ c ∈ l
  | [], acc, k, p, h, c, hc => by
    rw [TL.spl_nil] at h
    rw [List.mem_singleton.mp h] at hc
    exact .inl hc
  | d :: r, acc, 0, p, h, c, hc => by
    by_cases e : TL.pre S0 (d :: r) = true
    · rw [TL.spl_hit e] at h
      rcases List.mem_cons.mp h with rfl | h
      · exact .inl hc
      · rcases spl_ch S0 r [] (S0.length - 1) p h c hc with z | z
        · cases z
        · exact .inr (.tail _ z)
    · rw [TL.spl_miss (Bool.eq_false_iff.mpr e)] at h
      rcases spl_ch S0 r (acc ++ [d]) 0 p h c hc with z | z
      · rcases List.mem_append.mp z with z | z
        · exact .inl z
        · rw [List.mem_singleton.mp z]; exact .inr (.head _)
      · exact .inr (.tail _ z)
  | d :: r, acc, k + 1, p, h, c, hc => by
    rcases spl_ch S0 r acc k p h c hc with z | z
    · exact .inl z
    · exact .inr (.tail _ z)
theorem spS_ch {l : Str} (h : ChOk l) : ∀ w ∈ spS l, ChOk w := fun w hw c hc => by
  have e := TL.split_spl l (" " : Str) (by decide +kernel) (TL.kind_ok (by decide +kernel))
  have hm : TL.tl w ∈ TL.spl (TL.tl (" " : Str)) 0 [] (TL.tl l) := by rw [← e]; exact List.mem_map_of_mem hw
  rcases spl_ch _ _ _ _ _ hm c hc with z | z
  · cases z
  · exact h c z
theorem GoodS.ch {n : Nat} {z : Str} (h : GoodS n z) : ChOk z := fun c hc => (h.2 c hc).2
theorem ch_ok {w : Str} (h : ChOk w) : PyData.strOk w = true := by rw [← TL.mk_tl w]; exact strOk_S h
theorem strs_dp {K : PySem.W.Frag} {H : Hp} : ∀ ls : List Str, DpAll K H (ls.map V.str) (ls.map PyData.str)
  | [] => .nil
  | x :: ls => .cons (.str _) (strs_dp ls)
theorem strs_lay : ∀ {ls : List Str}, (∀ l ∈ ls, ChOk l) → PyData.canLayAll0 (ls.map PyData.str) = true ∧ PyData.depthAll (ls.map PyData.str) ≤ 1
  | [], _ => ⟨rfl, Nat.zero_le _⟩
  | l :: ls, h => by
    obtain ⟨h1, h2⟩ := strs_lay (ls := ls) fun x hx => h x (List.mem_cons_of_mem _ hx)
    refine ⟨?_, ?_⟩
    · show (PyData.strOk l && PyData.canLayAll0 (ls.map PyData.str)) = true
      rw [h1, ch_ok (h l (List.mem_cons_self ..))]; rfl
    · show max 0 (PyData.depthAll (ls.map PyData.str)) ≤ 1
      omega
theorem strs_list {ls : List Str} (h : ∀ l ∈ ls, ChOk l) : SeqAt.shaped (.list (ls.map PyData.str)) = true ∧ PyData.eqv (.list (ls.map PyData.str)) (.list (ls.map PyData.str)) = true := by
  obtain ⟨h1, h2⟩ := strs_lay h
  refine ⟨?_, SeqAt.eqv_refl _ h1⟩
  show (PyData.canLayAll0 (ls.map PyData.str) && decide (PyData.depthAll (ls.map PyData.str) + 1 ≤ 64)) = true
  rw [h1, decide_eq_true (by omega)]; rfl
theorem eqv_nil (ls : List Str) : PyData.eqv (.list (ls.map PyData.str)) (.list []) = decide (ls = []) := by
  cases ls with
  | nil => rfl
  | cons x r => rw [decide_eq_false (fun z => nomatch z)]; rfl
theorem ones_flat (l : List Nat) : (l.map one).all flatV = true := List.all_eq_true.mpr fun x hx => by
  obtain ⟨w, _, rfl⟩ := List.mem_map.mp hx
  rfl
theorem one_strs (l : List Nat) : l.map one = (l.map fun c => S [c]).map V.str := by rw [List.map_map]; rfl
theorem inV_ones (c : Nat) (l : List Nat) : inV (.str ⟨#[c]⟩) (l.map one) = decide (c ∈ l) := by
  rw [one_strs, inV_strs]
  refine decide_eq_decide.mpr ?_
  rw [List.mem_map]
  refine ⟨fun ⟨d, hd, e⟩ => ?_, fun h => ⟨c, h, rfl⟩⟩
  have : [d] = [c] := S_inj e
  cases this
  exact hd
theorem op_notIn_seqK {X : Cx} {K : PySem.W.Frag} (hK : X.K = K) : OpR X (compareOp .NotIn) (rIn K true) := by subst hK; exact op_notIn_seq
theorem lc_penK {p c : Addr} {m0 n s : Nat} {te : TE} {k : Nat} {σ : L2.St} {H1 : Hp} {D : Addr} {Qd : Hp → Prop} (R : V → Hp → Prop) (stab : ∀ v H H', Tk H H' → R v H → R v H') (hk : k < σ.length) (hD : H1 D = none) (hp : PenAt H1 p c m0) (hn : n ≤ 1000000)
    (hs : ∀ (i : Nat) (H : Hp) (m : Nat) (Q : VK), i < n → Ks H1 H → PenAt H p c m → m ≤ m0 + i * s → (∀ (H' : Hp) (v : V), Ks H H' → PenAt H' p c (m + s) → R v H' → Q v H') → te ((wipe σ [k]).set k (some (.int ((0 : Int) + i)))) H Q)
    (hd : ∀ (H : Hp) (xs : List V), xs.length = n → (∀ v ∈ xs, R v H) → H D = some (.lst xs) → Ks H1 H → PenAt H p c (m0 + n * s) → Qd H) :
    ∃ W : Nat → Nat → Hp → Prop, (∃ m, W 0 m (upd H1 D (.lst []))) ∧ ∀ i m H, W i m H →
      ((Itr 0 n).stop i H ∧ Qd H) ∨ ((Itr 0 n).go i H ∧ ∃ Nx : Hp → Prop, (∀ H', Nx H' → ∃ m', m' < m ∧ W (i + 1) m' H') ∧ ∀ x H', (Itr 0 n).yld i H x H' → gName k x (wipe σ [k]) H' fun σ2 H2 => wipe σ2 [k] = wipe σ [k] ∧ tYes σ2 H2 fun b H3 =>
        if b = true then te σ2 H3 fun y H4 => ∃ acc, H4 D = some (.lst acc) ∧ acc.length < sizeLine ∧ Nx (upd H4 D (.lst (acc ++ [y]))) else Nx H3) := by
  have nD := hp.ne hD
  refine lc_range (lo := 0) (n := n) (fun i H => ∃ xs : List V, xs.length = i ∧ (∀ v ∈ xs, R v H) ∧ H D = some (.lst xs) ∧ Ks H1 H ∧ PenAt H p c (m0 + i * s)) ?_ ?_ ?_
  · exact ⟨[], rfl, (fun _ h => nomatch h), upd_same, Ks.new1 hD _, by rw [Nat.zero_mul]; exact hp.new hD⟩
  · rintro i H hi ⟨xs, e1, e2, e3, e4, e5⟩
    refine ⟨?_, ?_⟩
    · show ((σ.set k none).set k _).set k none = (σ.set k none)
      rw [List.set_set, List.set_set]
    · dsimp only [tYes]
      rw [if_pos rfl]
      refine hs i H _ _ hi e4 e5 (Nat.le_refl _) (fun H' v k1 k2 k3 => ?_)
      refine ⟨xs, k1.lst e3, szL (by omega), xs ++ [v], by rw [List.length_append, e1]; rfl, fun u hu => ?_, upd_same, (e4.trans k1).upd hD _, ?_⟩
      · have tk : Tk H' (upd H' D (.lst (xs ++ [v]))) := (Tk.refl H').lst (k1.lst e3)
        rcases List.mem_append.mp hu with hu | hu
        · exact stab _ _ _ (k1.tk.trans tk) (e2 u hu)
        · rw [List.mem_singleton.mp hu]
          exact stab _ _ _ tk k3
      · rw [Nat.succ_mul, ← Nat.add_assoc]
        exact k2.upd nD.1 nD.2
  · rintro H ⟨xs, e1, e2, e3, e4, e5⟩
    exact hd H xs e1 e2 e3 e4 e5
theorem ifl {b : Bool} {te : TE} {σ : L2.St} {H2 : Hp} {A : List V} {R : VK} (hA : ∀ R : VK, (∀ p, H2 p = none → R (.ref p) (upd H2 p (.lst A))) → te σ H2 R) (k : ∀ Y H3 ys, Same H2 H3 → H3 Y = some (.lst ys) → (ys = A ∨ ys = []) → R (.ref Y) H3) : if b = true then te σ H2 R else tLst tNil σ H2 R := by
  refine ite2 (fun _ => hA R fun p hp => k p _ A (same1 hp _) upd_same (.inl rfl)) fun _ => ?_
  exact ⟨szB (by decide), fun p hp => k p _ [] (same1 hp _) upd_same (.inr rfl)⟩
theorem ifv {b : Bool} {ta tb : TE} {σ : L2.St} {H2 : Hp} {R : VK} (x y : V) (hx : ∀ R : VK, R x H2 → ta σ H2 R) (hy : ∀ R : VK, R y H2 → tb σ H2 R) (k : ∀ v, (b = true ∧ v = x) ∨ (b = false ∧ v = y) → R v H2) : if b = true then ta σ H2 R else tb σ H2 R := by
  cases b with
  | true => rw [if_pos rfl]; exact hx R (k x (.inl ⟨rfl, rfl⟩))
  | false => rw [if_neg Bool.false_ne_true]; exact hy R (k y (.inr ⟨rfl, rfl⟩))
/-- a list of words of a line -/
def LwAt (H0 : Hp) (B : Addr) (n : Nat) (H' : Hp) : Prop := ∃ ws : List Str, Same H0 H' ∧ H' B = some (.lst (ws.map V.str)) ∧ 1 ≤ ws.length ∧ ws.length ≤ n ∧ ∀ w ∈ ws, GoodS 8 w
theorem lw_cat {H : Hp} {B Y : Addr} {n m : Nat} {H1 H2 : Hp} {ys : List Str} {R : VK} (h : LwAt H B n H1) (s : Same H1 H2) (hY : H2 Y = some (.lst (ys.map V.str))) (hk : n + ys.length ≤ m) (hm : m ≤ 100) (g : ∀ w ∈ ys, GoodS 8 w)
    (q : ∀ D H3, Same H2 H3 → LwAt H D m H3 → R (.ref D) H3) : rCat (.ref B) (.ref Y) H2 R := by
  obtain ⟨ws, s0, h1, h2, h3, h4⟩ := h
  refine ⟨B, Y, _, _, rfl, rfl, s _ _ h1, hY, szB (by rw [List.length_map, List.length_map]; omega), fun D hD => ?_⟩
  have s2 : Same H H2 := fun b o z => s _ _ (s0 b o z)
  refine q D _ (same1 hD _) ⟨ws ++ ys, same_new s2 hD _, by rw [List.map_append]; exact upd_same, ?_, ?_, fun w hw => ?_⟩
  · rw [List.length_append]; omega
  · rw [List.length_append]; omega
  · rcases List.mem_append.mp hw with hw | hw
    · exact h4 w hw
    · exact g w hw
theorem goods_of {n : Nat} {l : List Str} (h : (l.all fun z => decide (z.length ≤ n) && (TL.tl z).all fun c => decide (c ≠ 10 ∧ c < 1000)) = true) : ∀ z ∈ l, GoodS n z := by
  intro z hz
  have h := List.all_eq_true.mp h z hz
  rw [Bool.and_eq_true] at h
  exact ⟨of_decide_eq_true h.1, fun c hc => of_decide_eq_true (List.all_eq_true.mp h.2 c hc)⟩
theorem tl_joinS (y : Str) (ls : List Str) : TL.tl (Txt.join y ls) = TL.joinL (TL.tl y) (ls.map TL.tl) := by
  rw [TL.join_eq]; exact TL.tl_join _ _
theorem joinL_mem {s : List Nat} {c : Nat} : ∀ {ls : List (List Nat)}, c ∈ TL.joinL s ls → c ∈ s ∨ ∃ l ∈ ls, c ∈ l
  | [], h => by cases h
  | [l], h => .inr ⟨l, .head _, h⟩
  | l :: m :: r, h => by
    have h' : c ∈ l ++ (s ++ TL.joinL s (m :: r)) := h
    rcases List.mem_append.mp h' with z | z
    · exact .inr ⟨l, .head _, z⟩
    · rcases List.mem_append.mp z with z | z
      · exact .inl z
      · rcases joinL_mem z with y | ⟨u, hu, y⟩
        · exact .inl y
        · exact .inr ⟨u, .tail _ hu, y⟩
theorem joinL_len {s : List Nat} {b : Nat} : ∀ {ls : List (List Nat)}, (∀ l ∈ ls, l.length ≤ b) → (TL.joinL s ls).length ≤ ls.length * (b + s.length)
  | [], _ => Nat.zero_le _
  | [l], h => by
    have := h l (.head _)
    show l.length ≤ 1 * (b + s.length)
    omega
  | l :: m :: r, h => by
    have h1 := h l (.head _)
    have h2 := joinL_len (s := s) (b := b) (ls := m :: r) fun x hx => h x (.tail _ hx)
    show (l ++ (s ++ TL.joinL s (m :: r))).length ≤ (r.length + 1 + 1) * (b + s.length)
    rw [List.length_append, List.length_append, Nat.succ_mul]
    rw [List.length_cons] at h2
    omega
theorem lens_sum {b : Nat} : ∀ {ls : List Str}, (∀ l ∈ ls, l.length ≤ b) → (ls.map (·.length)).sum ≤ ls.length * b
  | [], _ => Nat.zero_le _
  | l :: r, h => by
    have h1 := h l (.head _)
    have h2 := lens_sum (b := b) (ls := r) fun x hx => h x (.tail _ hx)
    rw [List.map_cons, List.sum_cons, List.length_cons, Nat.succ_mul]
    omega
theorem lc_listK {K : PySem.W.Frag} {p c a : Addr} {m0 s : Nat} {xs : List V} {te : TE} {k : Nat} {σ : L2.St} {H1 : Hp} {D : Addr} {Qd : Hp → Prop} (R : Nat → V → Hp → Prop) (stab : ∀ i v H H', Tk H H' → R i v H → R i v H') (hk : k < σ.length) (hD : H1 D = none) (ha : H1 a = some (.lst xs)) (hp : PenAt H1 p c m0) (hn : xs.length ≤ 1000000)
    (hs : ∀ (i : Nat) (x : V) (H : Hp) (m : Nat) (Q : VK), xs[i]? = some x → Ks H1 H → PenAt H p c m → m ≤ m0 + i * s → (∀ (H' : Hp) (v : V), Ks H H' → PenAt H' p c (m + s) → R i v H' → Q v H') → te ((wipe σ [k]).set k (some x)) H Q)
    (hd : ∀ (H : Hp) (ys : List V), ys.length = xs.length → (∀ i v, ys[i]? = some v → R i v H) → H D = some (.lst ys) → Ks H1 H → PenAt H p c (m0 + xs.length * s) → Qd H) :
    ∃ W : Nat → Nat → Hp → Prop, (∃ m, W 0 m (upd H1 D (.lst []))) ∧ ∀ i m H, W i m H →
      ((Itl K a).stop i H ∧ Qd H) ∨ ((Itl K a).go i H ∧ ∃ Nx : Hp → Prop, (∀ H', Nx H' → ∃ m', m' < m ∧ W (i + 1) m' H') ∧ ∀ x H', (Itl K a).yld i H x H' → gName k x (wipe σ [k]) H' fun σ2 H2 => wipe σ2 [k] = wipe σ [k] ∧ tYes σ2 H2 fun b H3 =>
        if b = true then te σ2 H3 fun y H4 => ∃ acc, H4 D = some (.lst acc) ∧ acc.length < sizeLine ∧ Nx (upd H4 D (.lst (acc ++ [y]))) else Nx H3) := by
  have nD := hp.ne hD
  refine lc_list (K := K) (a := a) (xs := xs) (fun i H => ∃ ys : List V, ys.length = i ∧ (∀ j v, ys[j]? = some v → R j v H) ∧ H D = some (.lst ys) ∧ Ks H1 H ∧ PenAt H p c (m0 + i * s)) ?_ ?_ ?_ ?_
  · exact ⟨[], rfl, (fun _ _ h => nomatch h), upd_same, Ks.new1 hD _, by rw [Nat.zero_mul]; exact hp.new hD⟩
  · rintro i H _ ⟨ys, e1, e2, e3, e4, e5⟩
    exact SqL.of (e4.lst ha)
  · rintro i x H hx ⟨ys, e1, e2, e3, e4, e5⟩
    have hi : i < xs.length := (List.getElem?_eq_some_iff.mp hx).1
    refine ⟨?_, ?_⟩
    · show ((σ.set k none).set k _).set k none = (σ.set k none)
      rw [List.set_set, List.set_set]
    · dsimp only [tYes]
      rw [if_pos rfl]
      refine hs i x H _ _ hx e4 e5 (Nat.le_refl _) (fun H' v k1 k2 k3 => ?_)
      refine ⟨ys, k1.lst e3, szL (by omega), ys ++ [v], by rw [List.length_append, e1]; rfl, fun j u hu => ?_, upd_same, (e4.trans k1).upd hD _, ?_⟩
      · have tk : Tk H' (upd H' D (.lst (ys ++ [v]))) := (Tk.refl H').lst (k1.lst e3)
        rcases Nat.lt_or_ge j ys.length with hj | hj
        · rw [List.getElem?_append_left hj] at hu
          exact stab _ _ _ _ (k1.tk.trans tk) (e2 j u hu)
        · rw [List.getElem?_append_right hj] at hu
          have ej : j = i := by
            have := (List.getElem?_eq_some_iff.mp hu).1
            rw [List.length_singleton] at this
            omega
          subst ej
          rw [e1, Nat.sub_self] at hu
          cases hu
          exact stab _ _ _ _ tk k3
      · rw [Nat.succ_mul, ← Nat.add_assoc]
        exact k2.upd nD.1 nD.2
  · rintro H ⟨ys, e1, e2, e3, e4, e5⟩
    exact hd H ys e1 e2 e3 e4 e5
theorem good_of {l t : List Nat} {n : Nat} (h : SgOk l) (ht : ∀ x ∈ t, x ∈ l) (hn : t.length ≤ n) : GoodS n (S t) := ⟨by rw [S_len]; exact hn, fun c hc => h.2.2 c (ht c (by rwa [TL.tl_mk] at hc))⟩

end
end Vf

set_option maxRecDepth 100000
set_option maxHeartbeats 4000000
namespace Vf
open PySem PySem.Spec PyProof.Rows L2 SX
section
variable {P : Program} {w : World} {K : PySem.W.Frag} {mg : Str → Option Value} {base : Heap}
theorem strs_show : ∀ {ls : List Str}, (∀ l ∈ ls, GoodS 1000 l) → PyData.showableAll (ls.map PyData.str) = true ∧ PyData.hasDictAll (ls.map PyData.str) = false ∧ PyData.depthAll (ls.map PyData.str) ≤ 1 ∧ PyData.leavesShortAll 8 (ls.map PyData.str) = true ∧ PyData.bulkAll (ls.map PyData.str) ≤ 1001 * ls.length
  | [], _ => ⟨by simp [PyData.showableAll], by simp [PyData.hasDictAll], by simp [PyData.depthAll], by simp [PyData.leavesShortAll], by simp [PyData.bulkAll]⟩
  | l :: ls, h => by
    obtain ⟨h1, h2, h3, h4, h5⟩ := strs_show (ls := ls) fun x hx => h x (List.mem_cons_of_mem _ hx)
    obtain ⟨g1, g2⟩ := h l (List.mem_cons_self ..)
    have g3 : l.cps.size ≤ 1000 := g1
    refine ⟨by simp [PyData.showableAll, PyData.showable, h1], by simp [PyData.hasDictAll, PyData.hasDict, h2], ?_, ?_, ?_⟩
    · simp only [List.map_cons, PyData.depthAll, PyData.depth]; omega
    · simp only [List.map_cons, PyData.leavesShortAll, PyData.leavesShort, h4, Bool.and_true, List.all_eq_true, decide_eq_true_eq]
      exact fun c hc => Nat.lt_trans (g2 c hc).2 (by decide)
    · simp only [List.map_cons, PyData.bulkAll, PyData.bulk, List.length_cons]; omega
/-- a tuple of lines, as repr tells it -/
theorem strs_shown {ls : List Str} (h : LnOk ls) : (PyData.tuple (ls.map PyData.str)).showable = true ∧ (PyData.tuple (ls.map PyData.str)).hasDict = false ∧ (PyData.tuple (ls.map PyData.str)).depth ≤ 40 ∧ (PyData.tuple (ls.map PyData.str)).shown.length ≤ sizeLine := by
  obtain ⟨h1, h2, h3, h4, h5⟩ := strs_show h.2
  refine ⟨by simp only [PyData.showable]; exact h1, by simp only [PyData.hasDict]; exact h2, by simp only [PyData.depth]; omega, ?_⟩
  have b := PyData.shown_le_bulk 8 (by decide) (.tuple (ls.map PyData.str)) (by simp only [PyData.leavesShort]; exact h4)
  simp only [PyData.bulk] at b
  have hl := h.1
  have e : (2000000 : Nat) ≤ sizeLine := by decide
  omega

end
end Vf

set_option maxRecDepth 100000
set_option maxHeartbeats 4000000
namespace Vf
open PySem PySem.Spec PyProof.Rows L2 SX
section
variable {P : Program} {w : World} {K : PySem.W.Frag} {mg : Str → Option Value} {base : Heap}
theorem ok_canStand {f : Addr} {fd : FuncData} (F : C8.Def K mg "can_stand" s_canStand f fd) (b : Binds K fd ["ahead", "word", "openers"] []) (T : Tx K w mg) (C_isMark : C8.Cal P w K mg base 1 "is_mark" sp_isMark []) (C_optionCanStand : C8.Cal P w K mg base 1 "option_can_stand" (sp_optionCanStand K) []) : C8.Cal P w K mg base 2 "can_stand" (sp_canStand K) [] := by
  refine C8.cal0 F b .nil sc_canStand (fun vs H Q E h => ?_) (fun cdv A outer s H vs Q E hr h => ?_)
  · obtain ⟨a, o, ws, os, w, rfl, _⟩ := h; rfl
  have hu := hu_of hr
  refine ⟨_, (pss_cons (ps_if (pt_not (pt_truth (pv 0) (by intro _; rfl)))
      (pss_one (ps_ret (pe_cmpR op_in_seq (pv 1) (C8.pe_gc rfl (Classical.choose_spec T.g_KINDS).1) rfl)))
      pss_nil)
      (pss_cons (ps_if (pt_cmpR op_eq (pe_callB call_len (by rfl) T.z_len PySem.boot_len (pa_cons (pv 0) pa_nil)) pe_int (nomark _))
      (pss_one (ps_ret (pe_and (C8.pe_c C_isMark hr (by decide) rfl (pa_cons (pv 1) pa_nil)) (pe_one (pe_cmpR op_notIn_seq (pv 1) (pv 2) rfl)))))
      pss_nil)
      (pss_cons (ps_if (pt_cmpR op_eq (pe_callB call_len (by rfl) T.z_len PySem.boot_len (pa_cons (pv 0) pa_nil)) pe_int (nomark _))
      (pss_one (ps_ret (pe_cmpR op_eq (pv 1) pe_str (nomark _))))
      pss_nil)
      (pss_cons (ps_if (pt_cmpR op_eq (pe_callB call_len (by rfl) T.z_len PySem.boot_len (pa_cons (pv 0) pa_nil)) pe_int (nomark _))
      (pss_one (ps_ret (pe_or (pe_cmpR op_eq (pv 1) pe_str (nomark _)) (pe_one (C8.pe_c C_isMark hr (by decide) rfl (pa_cons (pv 1) pa_nil))))))
      pss_nil)
      (pss_cons (ps_if (pt_cmpR op_eq (pe_ix ix_list (pv 0) (pe_un un_neg pe_int) (fun _ _ => rfl)) pe_str (nomark _))
      (pss_one (ps_ret (pe_cmpR op_in_seq (pv 1) (C8.pe_gc rfl (Classical.choose_spec T.g_DEPTHS).1) rfl)))
      pss_nil)
      (pss_cons (ps_if (pt_cmpR op_eq (pe_ix ix_list (pv 0) (pe_un un_neg pe_int) (fun _ _ => rfl)) pe_str (nomark _))
      (pss_one (ps_ret (pe_and (C8.pe_c C_isMark hr (by decide) rfl (pa_cons (pv 1) pa_nil)) (pe_one (pe_cmpR op_eq (pe_callB call_len (by rfl) T.z_len PySem.boot_len (pa_cons (pv 1) pa_nil)) pe_int (nomark _))))))
      pss_nil)
      (pss_one (ps_ret (C8.pe_c C_optionCanStand hr (by decide) rfl (pa_cons (pv 0) (pa_cons (pv 1) pa_nil))))))))))), ?_⟩

  obtain ⟨a, o, ws, os, w, rfl, ha, ho, vd, hz, hw, q⟩ := h
  have q0 := q H (same_refl H)
  have hl : ws.length = (ws.map V.str).length := (List.length_map ..).symm
  refine ⟨_, rfl, _, truL ha, ?_⟩
  by_cases c0 : ws.length = 0
  · have e : ws = [] := List.length_eq_zero_iff.mp c0
    subst e
    refine ify rfl ?_
    refine ⟨_, rfl, _, _, rfl, .inr ((Classical.choose_spec T.g_KINDS).2 H), rfl, rfl, ?_⟩
    rw [if_neg Bool.false_ne_true, show ([V.str "remark", V.str "quote"] : List V) = (["remark", "quote"] : List Str).map V.str from rfl, inV_strs]
    exact q0
  have cb : canB ws w os = if ws.length = 1 then isMk w && !(decide (w ∈ os)) else if ws.length = 2 then decide (w = "to") else if ws.length = 3 then decide (w = "line") || isMk w else optB ws w := by
    unfold canB; rw [if_neg c0]
  rw [cb] at q0
  refine ifn (by cases ws with | nil => exact absurd rfl c0 | cons x r => rfl) ?_
  refine ⟨_, rfl, _, ws.length, rfl, .inl ⟨_, ha, hl⟩, rfl, _, rfl, ?_⟩
  rw [show V.int 1 = V.int ((1 : Nat) : Int) from rfl, dN]
  by_cases c1 : ws.length = 1
  · rw [if_pos c1] at q0
    refine ify (decide_eq_true c1) ⟨_, rfl, w, rfl, hw, fun H1 s1 => ⟨_, rfl, ?_⟩⟩
    have q1 := q H1 s1
    rw [cb, if_pos c1] at q1
    cases cm : isMk w with
    | false => rw [cm, Bool.false_and] at q1; exact ifF q1
    | true =>
      rw [cm, Bool.true_and] at q1
      refine ifT ⟨_, rfl, _, rfl, o, _, rfl, .inl (sqL_same s1 ho), rfl, flat_strs _, ?_⟩
      rw [if_pos rfl, inV_strs]
      exact q1
  rw [if_neg c1] at q0
  refine ifn (decide_eq_false c1) ⟨_, rfl, _, ws.length, rfl, .inl ⟨_, ha, hl⟩, rfl, _, rfl, ?_⟩
  rw [show V.int 2 = V.int ((2 : Nat) : Int) from rfl, dN]
  by_cases c2 : ws.length = 2
  · rw [if_pos c2] at q0
    refine ify (decide_eq_true c2) ⟨_, rfl, rfl, ?_⟩
    rw [dS]
    exact q0
  rw [if_neg c2] at q0
  refine ifn (decide_eq_false c2) ⟨_, rfl, _, ws.length, rfl, .inl ⟨_, ha, hl⟩, rfl, _, rfl, ?_⟩
  rw [show V.int 3 = V.int ((3 : Nat) : Int) from rfl, dN]
  by_cases c3 : ws.length = 3
  · rw [if_pos c3] at q0
    refine ify (decide_eq_true c3) ⟨_, rfl, rfl, _, rfl, ?_⟩
    rw [dS]
    by_cases c4 : w = "line"
    · rw [decide_eq_true c4, Bool.true_or] at q0
      exact ify (decide_eq_true c4) q0
    · refine ifn (decide_eq_false c4) ⟨_, rfl, w, rfl, hw, fun H1 s1 => ?_⟩
      have q1 := q H1 s1
      rw [cb, if_neg c1, if_neg c2, if_pos c3, decide_eq_false c4, Bool.false_or] at q1
      exact q1
  rw [if_neg c3] at q0
  have h4 : 4 ≤ ws.length := by omega
  have cbo : canB ws w os = optB ws w := by rw [cb, if_neg c1, if_neg c2, if_neg c3]
  obtain ⟨u, gl, lst⟩ := at_lastS (ws := ws) (by intro z; exact c0 (by rw [z]; rfl))
  refine ifn (decide_eq_false c3) ⟨_, rfl, _, rfl, a, _, _, _, rfl, rfl, ha, lst, rfl, _, rfl, ?_⟩
  rw [dS]
  have l1 := vd_last vd h4 (.inl rfl)
  have l2 := vd_last vd h4 (.inr rfl)
  rw [gl] at l1 l2
  by_cases c4 : u = "nested"
  · refine ify (decide_eq_true c4) ?_
    refine ⟨_, rfl, _, _, rfl, .inr ((Classical.choose_spec T.g_DEPTHS).2 H), rfl, rfl, ?_⟩
    rw [if_neg Bool.false_ne_true, show ([V.str "2", V.str "3", V.str "4"] : List V) = (["2", "3", "4"] : List Str).map V.str from rfl, inV_strs]
    unfold optB at q0
    rw [if_pos (l1.mp (by rw [c4]))] at q0
    exact q0
  have n1 : (ws.drop 4).getLast? ≠ some ("nested" : Str) := fun z => c4 (Option.some.inj (l1.mpr z))
  refine ifn (decide_eq_false c4) ⟨_, rfl, _, rfl, a, _, _, _, rfl, rfl, ha, lst, rfl, _, rfl, ?_⟩
  rw [dS]
  by_cases c5 : u = "escape"
  · refine ify (decide_eq_true c5) ⟨_, rfl, w, rfl, hw, fun H1 s1 => ⟨_, rfl, ?_⟩⟩
    have q1 := q H1 s1
    rw [cbo] at q1
    unfold optB at q1
    rw [if_neg n1, if_pos (l2.mp (by rw [c5])), Bool.and_comm] at q1
    cases cm : isMk w with
    | false => rw [cm, Bool.false_and] at q1; exact ifF q1
    | true =>
      rw [cm, Bool.true_and] at q1
      refine ifT ⟨_, rfl, _, w.length, rfl, ⟨szB (by omega), rfl⟩, rfl, ?_⟩
      rw [dN]
      exact q1
  have n2 : (ws.drop 4).getLast? ≠ some ("escape" : Str) := fun z => c5 (Option.some.inj (l2.mpr z))
  refine ifn (decide_eq_false c5) ⟨_, rfl, _, rfl, a, ws, w, rfl, ha, h4, hz, vd_first vd, n1, n2, hw, fun H1 s1 => ?_⟩
  have q1 := q H1 s1
  rw [cbo] at q1
  exact q1

end
end Vf

set_option maxRecDepth 100000
set_option maxHeartbeats 4000000
namespace Vf
open PySem PySem.Spec PyProof.Rows L2 SX
section
variable {P : Program} {w : World} {K : PySem.W.Frag} {mg : Str → Option Value} {base : Heap}
theorem ok_draw {f : Addr} {fd : FuncData} (F : C8.Def K mg "_law_draw" s_draw f fd) (b : Binds K fd ["_law_pen_here", "_law_many"] []) (T : Tx K w mg)  : C8.Cal P w K mg base 1 "_law_draw" sp_draw [] := by
  refine C8.cal0 F b .nil sc_draw (fun vs H Q E h => ?_) (fun cdv A outer s H vs Q E hr h => ?_)
  · obtain ⟨p, c, m, n, rfl, _⟩ := h; rfl
  have hu := hu_of hr
  refine ⟨_, (pss_cons (ps_dput hu (pv 0) pe_str (pe_op op_add (pe_dget hu (pv 0) pe_str (fun _ _ => rfl)) pe_int) rfl)
      (C8.pss_cut (ps_if (PW.pt (pw_and (pt_cmpR op_eq (pe_dget hu (pv 0) pe_str (fun _ _ => rfl)) pe_int (nomark _)) (pw_and1 (pt_cmpR op_lt (pe_dget hu (pv 0) pe_str (fun _ _ => rfl)) (pe_callB call_len (by rfl) T.z_len PySem.boot_len (pa_cons (pe_dget hu (pv 0) pe_str (fun _ _ => rfl)) pa_nil)) (nomark _)))))
      (pss_cons (ps_set (i := 2) sc_draw.nd rfl (Or.inl rfl) (pe_ix ix_list (pe_dget hu (pv 0) pe_str (fun _ _ => rfl)) (pe_dget hu (pv 0) pe_str (fun _ _ => rfl)) (fun _ _ => rfl)))
      (pss_cons (ps_dput hu (pv 0) pe_str (pe_op op_add (pe_dget hu (pv 0) pe_str (fun _ _ => rfl)) pe_int) rfl)
      (pss_one (ps_if (pt_cmpR op_ge (pv 2) (pe_op op_pow pe_int pe_int) (nomark _))
      (pss_one (ps_dput hu (pv 0) pe_str (pe_op op_sub (pv 2) (pe_op op_pow pe_int pe_int)) rfl))
      (pss_one (ps_dput hu (pv 0) pe_str (pe_op op_mod (pe_callTy call_int1 (by rfl) T.z_int (by decide +kernel) (pa_cons (pe_op op_add (pe_op op_mul (pe_dget hu (pv 0) pe_str (fun _ _ => rfl)) pe_int) (pv 2)) pa_nil)) pe_int) rfl))))))
      pss_nil)
      (pss_cons (ps_if (pt_cmpR op_gt (pe_dget hu (pv 0) pe_str (fun _ _ => rfl)) pe_int (nomark _))
      (pss_cons (ps_set (i := 3) sc_draw.nd rfl (Or.inl rfl) (pe_op op_mod (pe_callTy call_int1 (by rfl) T.z_int (by decide +kernel) (pa_cons (pe_dget hu (pv 0) pe_str (fun _ _ => rfl)) pa_nil)) (pv 1)))
      (pss_cons (ps_dput hu (pv 0) pe_str (pe_op op_fdiv (pe_dget hu (pv 0) pe_str (fun _ _ => rfl)) (pv 1)) rfl)
      (pss_one (ps_ret (pv 3)))))
      pss_nil)
      (pss_cons (ps_set (i := 4) sc_draw.nd rfl (Or.inl rfl) (pe_op op_add (pe_op op_add (pe_dget hu (pv 0) pe_str (fun _ _ => rfl)) (pe_op op_mul (pe_dget hu (pv 0) pe_str (fun _ _ => rfl)) pe_int)) pe_int))
      (pss_one (ps_ret (pe_op op_mod (pe_op op_fdiv (pe_callTy call_int1 (by rfl) T.z_int (by decide +kernel) (pa_cons (pe_op op_mod (pe_op op_pow (pv 4) pe_int) pe_int) pa_nil)) pe_int) (pv 1)))))))), ?_⟩

  obtain ⟨p, c, m, n, rfl, ⟨ns, a, d, t, fo, hp, hc, hl, ha, hd, ht, htm, hf0, hf1⟩, hm, hn1, hn2, q⟩ := h
  have hpc : c ≠ p := ne_of hc hp (by intro z; cases z)
  have nx : ∀ o, (upd H p o) c = some (.lst (ns.map V.int)) := fun o => by rw [upd_ne hpc]; exact hc
  have lns : (ns.map V.int).length = ns.length := List.length_map _
  -- count
  refine ⟨_, rfl, p, _, rfl, pg_count hp, _, _, rfl, rfl, _, rfl, p, _, rfl, pp_count hp, ?_⟩
  have h1 : (upd H p (.dK (pk c a d (t + 1) fo))) p = some (.dK (pk c a d (t + 1) fo)) := upd_same
  -- the cell
  refine ⟨fun σ' H' => ∃ (v2 : Option V) (a' d' f' : Int), σ' = [some (.ref p), some (.int (n : Int)), v2, none, none] ∧ H' = upd H p (.dK (pk c a' d' (t + 1) f')) ∧ 0 ≤ a' ∧ 0 ≤ d' ∧ 0 ≤ f' ∧ f' < 2147483648, ?_, ?_⟩
  · refine ⟨_, rfl, p, _, rfl, pg_digits h1, rfl, _, rfl, ?_⟩
    refine ite2 (fun e0 => ?_) (fun _ => ?_)
    · refine ⟨_, rfl, p, _, rfl, pg_at h1, _, rfl, p, _, rfl, pg_cells h1, _, _, rfl, .inl ⟨_, SqL.of (nx _), rfl⟩, _, _, rfl, rfl, _, rfl, ?_⟩
      refine ite2 (fun e1 => ?_) (fun _ => ?_)
      · have e1' : a < (((ns.map V.int).length : Nat) : Int) := of_decide_eq_true e1
        rw [lns] at e1'
        have hk : a.toNat < ns.length := by omega
        have ek : a = ((a.toNat : Nat) : Int) := by omega
        have g : (ns.map V.int)[a.toNat]? = some (.int ns[a.toNat]) := by
          rw [List.getElem?_map, List.getElem?_eq_getElem hk]; rfl
        refine ⟨_, rfl, p, _, rfl, pg_cells h1, _, rfl, p, _, rfl, pg_at h1, c, _, a, _, rfl, rfl, SqL.of (nx _), at_of ek g, ?_⟩
        refine ⟨_, rfl, p, _, rfl, pg_at h1, _, _, rfl, rfl, _, rfl, p, _, rfl, pp_at h1, ?_⟩
        rw [upd_upd]
        have h2 : (upd H p (.dK (pk c (a + 1) d (t + 1) fo))) p = some (.dK (pk c (a + 1) d (t + 1) fo)) := upd_same
        refine ⟨_, rfl, _, _, rfl, rfl, ⟨by decide, by decide, by decide⟩, _, _, rfl, rfl, _, rfl, ?_⟩
        refine ite2 (fun e2 => ?_) (fun _ => ?_)
        · have e2' : (10 : Int) ^ (18 : Int).toNat ≤ ns[a.toNat] := of_decide_eq_true e2
          refine ⟨_, rfl, _, _, rfl, rfl, ⟨by decide, by decide, by decide⟩, _, _, rfl, rfl, _, rfl, p, _, rfl, pp_digits h2, ?_⟩
          rw [upd_upd]
          exact ⟨_, _, _, _, rfl, rfl, by omega, by omega, hf0, hf1⟩
        · refine ⟨_, rfl, p, _, rfl, pg_fold h2, _, _, rfl, rfl, .inl ⟨by omega, by omega⟩, _, rfl, _, _, rfl, rfl, .inl ⟨_, rfl, _, _, rfl, rfl, (by decide : (0 : Int) < 2147483587), _, rfl, p, _, rfl, pp_fold h2, ?_⟩⟩
          rw [upd_upd]
          exact ⟨_, _, _, _, rfl, rfl, by omega, hd, Int.emod_nonneg _ (by decide), Int.lt_trans (Int.emod_lt_of_pos _ (by decide)) (by decide)⟩
      · exact ⟨_, _, _, _, rfl, rfl, ha, hd, hf0, hf1⟩
    · exact ⟨_, _, _, _, rfl, rfl, ha, hd, hf0, hf1⟩
  · rintro σ' H' ⟨v2, a', d', f', rfl, rfl, ha', hd', hf', hf2⟩
    have h2 : (upd H p (.dK (pk c a' d' (t + 1) f'))) p = some (.dK (pk c a' d' (t + 1) f')) := upd_same
    have fin : ∀ (d2 : Int) (r : Nat), 0 ≤ d2 → r < n → Q (.int (r : Int)) (upd H p (.dK (pk c a' d2 (t + 1) f'))) := fun d2 r h0 hr' =>
      q _ r (Ks.dict hp) ⟨ns, _, _, _, _, upd_same, nx _, hl, ha', h0, by omega, by omega, hf', hf2⟩ hr'
    refine ⟨_, rfl, p, _, rfl, pg_digits h2, _, _, rfl, rfl, _, rfl, ?_⟩
    refine ite2 (fun e0 => ?_) (fun _ => ?_)
    · refine ⟨_, rfl, p, _, rfl, pg_digits h2, .inl ⟨_, rfl, _, rfl, _, _, rfl, rfl, (by omega : (0 : Int) < (n : Int)), ?_⟩⟩
      refine ⟨_, rfl, p, _, rfl, pg_digits h2, _, rfl, _, _, rfl, rfl, ⟨by omega, by omega⟩, _, rfl, p, _, rfl, pp_digits h2, ?_⟩
      rw [upd_upd]
      refine ⟨_, rfl, ?_⟩
      have e1 : d' % (n : Int) = (((d' % (n : Int)).toNat : Nat) : Int) := by
        have := Int.emod_nonneg d' (show (n : Int) ≠ 0 by omega)
        omega
      have e2 : (d' % (n : Int)).toNat < n := by
        have := Int.emod_lt_of_pos d' (show (0 : Int) < n by omega)
        have := Int.emod_nonneg d' (show (n : Int) ≠ 0 by omega)
        omega
      show Q (.int (d' % (n : Int))) _
      rw [e1]
      exact fin _ _ (Int.ediv_nonneg hd' (by omega)) e2
    · refine ⟨_, rfl, p, _, rfl, pg_fold h2, _, rfl, p, _, rfl, pg_count h2, _, _, rfl, rfl, .inr ⟨by decide, by decide⟩, _, _, rfl, rfl, _, _, rfl, rfl, ?_⟩
      refine ⟨_, rfl, _, _, rfl, rfl, ⟨by decide, by decide, ?_⟩, _, _, rfl, rfl, (by decide : (0 : Int) < 2305843009213693951), .inl ⟨_, rfl, _, _, rfl, rfl, ⟨by decide, by decide⟩, _, rfl, _, _, rfl, rfl, (by omega : (0 : Int) < (n : Int)), ?_⟩⟩
      · show (f' + (t + 1) * 7907 + 37).natAbs < 2 ^ 64
        have : (2 : Nat) ^ 64 = 18446744073709551616 := by decide
        omega
      generalize (f' + (t + 1) * 7907 + 37) ^ (17 : Int).toNat % 2305843009213693951 / 128 = z
      have e1 : z % (n : Int) = (((z % (n : Int)).toNat : Nat) : Int) := by
        have := Int.emod_nonneg z (show (n : Int) ≠ 0 by omega)
        omega
      have e2 : (z % (n : Int)).toNat < n := by
        have := Int.emod_lt_of_pos z (show (0 : Int) < n by omega)
        have := Int.emod_nonneg z (show (n : Int) ≠ 0 by omega)
        omega
      show Q (.int (z % (n : Int))) _
      rw [e1]
      exact fin _ _ hd' e2

end
end Vf

set_option maxRecDepth 100000
set_option maxHeartbeats 4000000
namespace Vf
open PySem PySem.Spec PyProof.Rows L2 SX
section
variable {P : Program} {w : World} {K : PySem.W.Frag} {mg : Str → Option Value} {base : Heap}
theorem wcol_pos {l : Str} {os : List Str} {c : Nat} (h : wcol l os = some c) : 1 ≤ c := by
  have go : ∀ (r ah : List Str) (c d : Nat), 1 ≤ c → wcGo os ah r c = some d → 1 ≤ d := by
    intro r
    induction r with
    | nil => intro ah c d _ h; cases h
    | cons w r ih =>
      intro ah c d hc h
      rw [wcGo_cons] at h
      split at h
      · exact ih _ _ _ (by omega) h
      · cases h; exact hc
  unfold wcol at h
  split at h
  · rename_i c' e
    cases h
    exact go _ _ _ _ (Nat.le_refl 1) e
  · split at h
    · cases h; omega
    · cases h
theorem ok_firstWrong {f : Addr} {fd : FuncData} (F : C8.Def K mg "_law_first_wrong" s_firstWrong f fd) (b : Binds K fd ["_law_lines"] []) (T : Tx K w mg) (C_lawWrongColumn : C8.Cal P w K mg base 5 "_law_wrong_column" (sp_lawWrongColumn K) []) : C8.Cal P w K mg base 6 "_law_first_wrong" (sp_firstWrong K) [] := by
  refine C8.cal0 F b .nil sc_firstWrong (fun vs H Q E h => ?_) (fun cdv A outer s H vs Q E hr h => ?_)
  · obtain ⟨a, ls, rfl, _⟩ := h; rfl
  have hu := hu_of hr
  refine ⟨_, (pss_cons (ps_set (i := 1) sc_firstWrong.nd rfl (Or.inl rfl) (pe_lst pa_nil))
      (pss_cons (ps_for PassesOwn.never rfl (pi_range1 (by rfl) T.z_range (pa_cons (pe_callB call_len (by rfl) T.z_len PySem.boot_len (pa_cons (pv 0) pa_nil)) pa_nil)) (pg_name (i := 2) sc_firstWrong.nd rfl (Or.inl rfl))
      (pss_cons (ps_set (i := 3) sc_firstWrong.nd rfl (Or.inl rfl) (pe_ifExp (pt_cmpR op_eq (pv 2) pe_int (nomark _)) pe_int (C8.pe_c C_lawWrongColumn hr (by decide) rfl (pa_cons (pe_ix ix_list (pv 0) (pv 2) (fun _ _ => rfl)) (pa_cons (pv 1) pa_nil)))))
      (pss_cons (ps_if (pt_cmpR op_gt (pv 3) pe_int (nomark _))
      (pss_one (ps_ret (pe_tup (pa_cons (pe_op op_add (pv 2) pe_int) (pa_cons (pv 3) pa_nil)))))
      pss_nil)
      (pss_one (ps_expr (pe_bm PySem.F.plainAttrs_list PySem.F.slot_list_append PySem.F.type_list_append mt_append (pv 1) (pa_cons (pe_ix ix_list (pe_split (pe_ix ix_list (pv 0) (pv 2) (fun _ _ => rfl)) pe_str) pe_int (fun _ _ => rfl)) pa_nil)))))))
      (pss_one (ps_ret pe_non)))), ?_⟩

  obtain ⟨a, ls, rfl, ha, lo, q⟩ := h
  obtain ⟨l1, l2⟩ := lo
  refine ⟨szB (by decide), fun O hO => ?_⟩
  have s0 := same1 hO (.lst [])
  have ha0 := sqL_same s0 ha
  refine ⟨_, rfl, _, ls.length, rfl, .inl ⟨_, ha0, (List.length_map ..).symm⟩, ((ls.length : Nat) : Int), rfl, by omega, by omega, ?_⟩
  rw [show ((ls.length : Nat) : Int).toNat = ls.length by omega]
  refine for_range (lo := 0) (n := ls.length) (fun i σ H' => ∃ (v3 v4 : Option V), σ = [some (.ref a), some (.ref O), v3, v4] ∧ Same H H' ∧ H' O = some (.lst (((ls.take i).map opn).map V.str)) ∧ fw ls = fwGo i (ls.drop i) ((ls.take i).map opn) ∧ i ≤ 6)
    ⟨none, none, rfl, s0, upd_same, rfl, by decide⟩ ?_ ?_
  · rintro i σ H1 hi ⟨v3, v4, rfl, s1, h1O, efw, hi6⟩
    have hl : ls[i]? = some ls[i] := List.getElem?_eq_getElem hi
    generalize ls[i] = l at hl
    have gl := l2 l (List.mem_of_getElem? hl)
    have ed : ls.drop i = l :: ls.drop (i + 1) := by
      obtain ⟨hlt, eg⟩ := List.getElem?_eq_some_iff.mp hl
      rw [← eg]; exact List.drop_eq_getElem_cons hlt
    have et : (ls.take (i + 1)).map opn = (ls.take i).map opn ++ [opn l] := by rw [List.take_add_one, hl, List.map_append]; rfl
    rw [ed, fwGo_cons] at efw
    have at0 : atI (ls.map V.str) ((0 : Int) + (i : Int)) = some (.str l) := by
      rw [show ((0 : Int) + (i : Int)) = ((i : Nat) : Int) by omega]
      exact atI_nat (by rw [List.getElem?_map, hl]; rfl)
    refine ⟨_, rfl, rfl, _, rfl, ?_⟩
    have e6 : decide (V.int ((0 : Int) + (i : Int)) = V.int 6) = decide (i = 6) := by
      rw [show ((0 : Int) + (i : Int)) = ((i : Nat) : Int) by omega]
      exact dN i 6
    rw [e6]
    by_cases c6 : i = 6
    · rw [if_pos (by omega)] at efw
      refine ify (decide_eq_true c6) ⟨_, rfl, _, _, rfl, rfl, _, rfl, ?_⟩
      refine ifT ⟨_, rfl, _, _, rfl, rfl, _, rfl, sz_2, fun t ht => ?_⟩
      refine q _ _ (same_new s1 ht _) ?_
      rw [efw]
      refine ⟨t, rfl, upd_same.trans ?_⟩
      exact congrArg (fun z : Int => some (HO.tup [V.int z, V.int 1])) (show ((0 : Int) + (i : Int)) + 1 = ((i + 1 : Nat) : Int) by omega)
    rw [if_neg (by omega)] at efw
    refine ifn (decide_eq_false c6) ⟨_, rfl, _, rfl, a, _, _, _, rfl, rfl, sqL_same s1 ha, at0, _, rfl, O, _, l, rfl, SqL.of h1O, gl, fun H2 s2 => ?_⟩
    have s12 : Same H H2 := fun b u z => s2 _ _ (s1 b u z)
    cases ec : wcol l ((ls.take i).map opn) with
    | some c =>
      rw [ec] at efw
      have hc := wcol_pos ec
      refine ⟨_, rfl, _, _, rfl, rfl, _, rfl, ?_⟩
      refine ify (decide_eq_true (by show (0 : Int) < (c : Int); omega)) ⟨_, rfl, _, _, rfl, rfl, _, rfl, sz_2, fun t ht => ?_⟩
      refine q _ _ (same_new s12 ht _) ?_
      rw [efw]
      refine ⟨t, rfl, upd_same.trans ?_⟩
      exact congrArg (fun z : Int => some (HO.tup [V.int z, V.int ((c : Nat) : Int)])) (show ((0 : Int) + (i : Int)) + 1 = ((i + 1 : Nat) : Int) by omega)
    | none =>
      rw [ec] at efw
      dsimp only at efw
      have cv := wcol_cv ec
      obtain ⟨b1, b2, b3⟩ := spS_bnd l
      refine ⟨_, rfl, _, _, rfl, rfl, _, rfl, ?_⟩
      refine ifn (by decide) ?_
      have h2O := s2 _ _ h1O
      refine ⟨_, rfl, .inl ⟨rfl, _, SqL.of h2O⟩, _, rfl, _, rfl, a, _, _, _, rfl, rfl, sqL_same s12 ha, at0, ⟨_, rfl⟩, _, _, rfl, rfl, by decide +kernel, szB (by have := gl.1; omega), fun W hW => ?_⟩
      have h3O : (upd H2 W (.lst ((spS l).map V.str))) O = some (.lst (((ls.take i).map opn).map V.str)) := by rw [upd_ne (ne_of_none h2O hW)]; exact h2O
      refine ⟨W, (spS l).map V.str, 1, _, rfl, rfl, SqL.of upd_same, at_strs (i := 1) (by have := cv.2.1; omega), O, _, _, rfl, rfl, h3O, szL (by rw [List.length_map, List.length_map, List.length_take]; omega), ?_⟩
      refine ⟨_, _, rfl, fun b u z => ?_, ?_, by rw [et]; exact efw, by omega⟩
      · rw [upd_ne (ne_of_none z hO), upd_ne (ne_of_none (s12 _ _ z) hW)]
        exact s12 _ _ z
      · rw [upd_same, et, List.map_append]
        have : opn l = (spS l)[1]'(by have := cv.2.1; omega) := getD_at _
        rw [this]; rfl
  · rintro σ H1 ⟨v3, v4, rfl, s1, h1O, efw, hi6⟩
    rw [List.drop_length] at efw
    refine q H1 .non s1 ?_
    rw [efw]
    rfl

end
end Vf

set_option maxRecDepth 100000
set_option maxHeartbeats 4000000
namespace Vf
open PySem PySem.Spec PyProof.Rows L2 SX
section
variable {P : Program} {w : World} {K : PySem.W.Frag} {mg : Str → Option Value} {base : Heap}
theorem ok_isMark {f : Addr} {fd : FuncData} (F : C8.Def K mg "is_mark" s_isMark f fd) (b : Binds K fd ["word"] []) (T : Tx K w mg)  : C8.Cal P w K mg base 1 "is_mark" sp_isMark [] := by
  refine C8.cal0 F b .nil sc_isMark (fun vs H Q E h => ?_) (fun cdv A outer s H vs Q E hr h => ?_)
  · obtain ⟨w, rfl, _⟩ := h; rfl
  have hu := hu_of hr
  refine ⟨_, (pss_one (ps_ret (pe_and (pe_chain op_le op_le pe_int (pe_callB call_len (by rfl) T.z_len PySem.boot_len (pa_cons (pv 0) pa_nil)) (C8.pe_gc rfl T.g_LONGEST_MARK)) (pe_one (pe_callB (cr_all rfl) (by rfl) T.z_all (by decide +kernel) (pa_cons (pe_lc (own := [("sign", 1)]) (g := (gName 1)) (tt := tYes) rfl sc_isMark.nd (pi_str (pv 0)) (blkOk_by (N := N_isMark) (sc := C8.fnScope s_isMark) (by decide +kernel)) (fun _ _ _ _ _ => pg_name (i := 1) sc_isMark.nd rfl (Or.inl rfl)) (fun _ _ _ _ _ => pts_nil) (fun _ _ _ _ _ => (pe_cmpR op_in_sign (pv 1) (C8.pe_gc rfl T.g_MARK_SIGNS) rfl))) pa_nil)))))), ?_⟩

  obtain ⟨w, rfl, hw, q⟩ := h
  have q0 := q H (fun _ _ z => z)
  refine ⟨_, rfl, _, w.length, rfl, ⟨szB (by omega), rfl⟩, _, _, rfl, rfl, _, rfl, ?_⟩
  have e1 : decide ((1 : Int) ≤ (w.length : Int)) = decide (1 ≤ w.length) := decide_eq_decide.mpr (by omega)
  rw [e1]
  have no : (decide (1 ≤ w.length) && decide (w.length ≤ 4)) = false → isMk w = false := fun z => by rw [isMk_lt, z, Bool.false_and]
  by_cases c1 : 1 ≤ w.length
  · refine ify (decide_eq_true c1) ⟨_, _, rfl, rfl, _, rfl, ?_⟩
    have e2 : decide ((w.length : Int) ≤ (4 : Int)) = decide (w.length ≤ 4) := decide_eq_decide.mpr (by omega)
    rw [e2]
    by_cases c2 : w.length ≤ 4
    · refine ify (decide_eq_true c2) ⟨_, rfl, _, rfl, fun D hD => ?_⟩
      have hz : w.cps.size = w.length := rfl
      refine lc_it (walk_str (z := w)) (fun i H' => H' = upd H D (.lst (((TL.tl w).take i).map fun c => V.bl (decide (c ∈ mkL))))) rfl (fun _ _ _ _ => trivial) (fun i x H1 H2 hi e y => ?_) (fun H1 e => ?_)
      · obtain ⟨eH, c, hc, rfl⟩ := y
        subst eH
        have hc' : (TL.tl w)[i]? = some c := by rw [← hc]; exact Array.getElem?_toList
        refine ⟨rfl, ?_⟩
        dsimp only [tYes]
        rw [if_pos rfl]
        refine ⟨_, rfl, c, S mkL, rfl, rfl, ?_⟩
        subst e
        refine ⟨_, upd_same, szL (by rw [List.length_map, List.length_take]; omega), ?_⟩
        rw [upd_upd, List.take_add_one, hc']
        simp [mkL]
      · subst e
        refine ⟨D, (TL.tl w).map fun c => decide (c ∈ mkL), rfl, SqL.of (by rw [upd_same, List.take_of_length_le (by rw [← TL.len_tl]; exact Nat.le_of_eq hz.symm), List.map_map]; rfl), ?_⟩
        rw [List.all_map]
        have := q _ (same_new (fun _ _ z => z) hD (.lst (((TL.tl w).take w.cps.size).map fun c => V.bl (decide (c ∈ mkL)))))
        rw [isMk_lt, decide_eq_true c1, decide_eq_true c2] at this
        exact this
    · rw [no (by rw [decide_eq_false c2, Bool.and_false])] at q0
      exact ifn (decide_eq_false c2) q0
  · rw [no (by rw [decide_eq_false c1, Bool.false_and])] at q0
    exact ifn (decide_eq_false c1) ⟨_, rfl, ifF q0⟩

end
end Vf

set_option maxRecDepth 100000
set_option maxHeartbeats 4000000
namespace Vf
open PySem PySem.Spec PyProof.Rows L2 SX
section
variable {P : Program} {w : World} {K : PySem.W.Frag} {mg : Str → Option Value} {base : Heap}
theorem up_letters : Txt.upper ("abcdefghijklmnopqrstuvwxyz" : Str) = "ABCDEFGHIJKLMNOPQRSTUVWXYZ" := by decide +kernel
def restL : List Nat := TL.tl (" _0123456789abcdefghijklmnopqrstuvwxyzABCDEFGHIJKLMNOPQRSTUVWXYZ" : Str)
theorem sg_all : SgOk (mkL ++ restL) := by
  refine ⟨by decide +kernel, by decide +kernel, ?_⟩
  have : ((mkL ++ restL).all fun c => decide (c ≠ 10 ∧ c < 1000)) = true := by decide +kernel
  exact fun c hc => of_decide_eq_true (List.all_eq_true.mp this c hc)
theorem ok_allSigns {f : Addr} {fd : FuncData} (F : C8.Def K mg "_law_all_signs" s_allSigns f fd) (b : Binds K fd [] []) (T : Tx K w mg) (C_markSigns : C8.Cal P w K mg base 1 "_law_mark_signs" sp_markSigns []) : C8.Cal P w K mg base 2 "_law_all_signs" sp_allSigns [] := by
  refine C8.cal0 F b .nil sc_allSigns (fun vs H Q E h => ?_) (fun cdv A outer s H vs Q E hr h => ?_)
  · obtain ⟨rfl, _⟩ := h; rfl
  have hu := hu_of hr
  refine ⟨_, (pss_cons (ps_set (i := 0) sc_allSigns.nd rfl (Or.inl rfl) pe_str)
      (pss_one (ps_ret (pe_op op_cat (pe_c0 C_markSigns hr (by decide) rfl) (pe_callTy (call_listS rfl) (by rfl) T.z_list (by decide +kernel) (pa_cons (pe_op op_add_str (pe_op op_add_str pe_str (pv 0)) (pe_bm0 PySem.F.plainAttrs_str PySem.F.slot_str_upper PySem.F.type_str_upper mt_upper (pv 0))) pa_nil)))))), ?_⟩

  obtain ⟨rfl, q⟩ := h
  refine ⟨rfl, fun H1 a s1 ha0 ha => ⟨_, rfl, _, _, rfl, rfl, szL (by decide +kernel), _, rfl, rfl, _, rfl, rfl, by decide +kernel, _, _, rfl, rfl, szL (by decide +kernel), ?_⟩⟩
  refine ⟨restL, ?_, by decide +kernel, fun B hB => ?_⟩
  · rw [up_letters]
    exact congrArg (fun z => [V.str z]) (by decide +kernel)
  · refine ⟨a, B, mkL.map one, restL.map one, rfl, rfl, by rw [upd_ne (ne_of_none ha hB)]; exact ha, upd_same, szL (by decide +kernel), fun D hD => ?_⟩
    refine q _ D (mkL ++ restL) (same_new (same_new s1 hB _) hD _) ?_ sg_all (by rw [List.map_append]; exact upd_same)
    exact (same_new s1 hB _).free hD

end
end Vf

set_option maxRecDepth 100000
set_option maxHeartbeats 4000000
namespace Vf
open PySem PySem.Spec PyProof.Rows L2 SX
section
variable {P : Program} {w : World} {K : PySem.W.Frag} {mg : Str → Option Value} {base : Heap}
theorem ok_lawIsMark {f : Addr} {fd : FuncData} (F : C8.Def K mg "_law_is_mark" s_lawIsMark f fd) (b : Binds K fd ["_law_word_here"] []) (T : Tx K w mg) (C_markSigns : C8.Cal P w K mg base 1 "_law_mark_signs" sp_markSigns []) : C8.Cal P w K mg base 2 "_law_is_mark" sp_lawIsMark [] := by
  refine C8.cal0 F b .nil sc_lawIsMark (fun vs H Q E h => ?_) (fun cdv A outer s H vs Q E hr h => ?_)
  · obtain ⟨w, rfl, _⟩ := h; rfl
  have hu := hu_of hr
  refine ⟨_, (pss_cons (ps_set (i := 1) sc_lawIsMark.nd rfl (Or.inr rfl) (pe_c0 C_markSigns hr (by decide) rfl))
      (pss_one (ps_ret (pe_and (pe_chain op_le op_le pe_int (pe_callB call_len (by rfl) T.z_len PySem.boot_len (pa_cons (pv 0) pa_nil)) pe_int) (pe_one (pe_cmpR (op_eqD hr.units) (pe_lc (own := [("_law_sign", 2)]) (g := (gName 2)) (tt := _) rfl sc_lawIsMark.nd (pi_str (pv 0)) (blkOk_by (N := N_lawIsMark) (sc := C8.fnScope s_lawIsMark) (by decide +kernel)) (fun _ _ _ _ _ => pg_name (i := 2) sc_lawIsMark.nd rfl (Or.inl rfl)) (fun _ _ _ _ _ => pts_one (pt_cmpR (op_notIn_seqK (K := K) rfl) (pv 2) (pv 1) rfl)) (fun _ _ _ _ _ => (pv 2))) (pe_lst pa_nil) (nomark _))))))), ?_⟩

  obtain ⟨w, rfl, hw, ch, q⟩ := h
  refine ⟨rfl, fun H1 a s1 ha0 ha => ?_⟩
  have q0 := q H1 s1
  refine ⟨_, rfl, _, w.length, rfl, ⟨szB (by omega), rfl⟩, _, _, rfl, rfl, _, rfl, ?_⟩
  have e1 : decide ((1 : Int) ≤ (w.length : Int)) = decide (1 ≤ w.length) := decide_eq_decide.mpr (by omega)
  rw [e1]
  have no : (decide (1 ≤ w.length) && decide (w.length ≤ 4)) = false → isMk w = false := fun z => by rw [isMk_lt, z, Bool.false_and]
  by_cases c1 : 1 ≤ w.length
  · refine ify (decide_eq_true c1) ⟨_, _, rfl, rfl, _, rfl, ?_⟩
    have e2 : decide ((w.length : Int) ≤ (4 : Int)) = decide (w.length ≤ 4) := decide_eq_decide.mpr (by omega)
    rw [e2]
    by_cases c2 : w.length ≤ 4
    · refine ify (decide_eq_true c2) ⟨_, rfl, _, rfl, fun D hD => ?_⟩
      have hz : w.cps.size = w.length := rfl
      have sD := same1 hD (.lst [])
      refine lc_it (walk_str (z := w)) (fun i H' => H' D = some (.lst ((((TL.tl w).take i).filter fun c => decide (c ∉ mkL)).map one)) ∧ Same H1 H') ⟨upd_same, sD⟩ (fun _ _ _ _ => trivial) (fun i x H2 H3 hi e y => ?_) (fun H2 e => ?_)
      · obtain ⟨eH, c, hc, rfl⟩ := y
        subst eH
        have hc' : (TL.tl w)[i]? = some c := by rw [← hc]; exact Array.getElem?_toList
        refine ⟨rfl, _, rfl, _, rfl, a, mkL.map one, rfl, .inl (SqL.of (e.2 _ _ ha)), rfl, ones_flat _, _, rfl, ?_⟩
        rw [if_pos rfl, inV_ones]
        have el : ((TL.tl w).take (i + 1)).filter (fun c => decide (c ∉ mkL)) = ((TL.tl w).take i).filter (fun c => decide (c ∉ mkL)) ++ (if c ∉ mkL then [c] else []) := by
          rw [List.take_add_one, hc', List.filter_append]
          congr 1
          by_cases z : c ∈ mkL <;> simp [z]
        by_cases z : c ∈ mkL
        · refine ifn (by rw [decide_eq_true z]; rfl) ⟨?_, e.2⟩
          rw [el, if_neg (by simpa using z), List.append_nil]
          exact e.1
        · refine ify (by rw [decide_eq_false z]; rfl) ⟨_, rfl, _, e.1, szL (by
            rw [List.length_map]
            have := List.length_filter_le (fun c => decide (c ∉ mkL)) ((TL.tl w).take i)
            rw [List.length_take] at this
            omega), ?_, same_upd e.2 hD _⟩
          rw [upd_same, el, if_pos z, List.map_append]; rfl
      · obtain ⟨e1', e2'⟩ := e
        rw [List.take_of_length_le (by rw [← TL.len_tl]; exact Nat.le_of_eq hz.symm)] at e1'
        refine ⟨szB (by decide), fun N hN => ?_⟩
        have sN := same_new e2' hN (.lst [])
        have q1 := q _ (fun c o z => sN _ _ (s1 _ _ z))
        have d1 : (upd H2 N (.lst [])) D = some (.lst (((TL.tl w).filter fun c => decide (c ∉ mkL)).map one)) := by rw [upd_ne (ne_of_none e1' hN)]; exact e1'
        refine ⟨.list ((((TL.tl w).filter fun c => decide (c ∉ mkL)).map fun c => S [c]).map PyData.str), .list [], .lst (SqL.of (d1.trans (congrArg (fun z => some (HO.lst z)) (one_strs _)))) (strs_dp _), .lst (SqL.of upd_same) .nil, (strs_list fun l hl => ?_).1, by decide +kernel, ?_⟩
        · obtain ⟨c, hc, rfl⟩ := List.mem_map.mp hl
          intro d hd
          have : d = c := by simpa [TL.tl, S] using hd
          rw [this]
          exact ch c (List.mem_filter.mp hc).1
        rw [eqv_nil]
        have em : decide ((((TL.tl w).filter fun c => decide (c ∉ mkL)).map fun c => S [c]) = []) = (TL.tl w).all fun c => decide (c ∈ mkL) := by
          cases hb : (TL.tl w).all fun c => decide (c ∈ mkL) with
          | true =>
            refine decide_eq_true ?_
            rw [List.map_eq_nil_iff, List.filter_eq_nil_iff]
            intro c hc
            have := List.all_eq_true.mp hb c hc
            simpa using this
          | false =>
            refine decide_eq_false fun z => ?_
            rw [List.map_eq_nil_iff, List.filter_eq_nil_iff] at z
            obtain ⟨c, hc, hn⟩ := List.all_eq_false.mp hb
            have := z c hc
            simp at this hn
            exact hn this
        rw [em]
        rw [isMk_lt, decide_eq_true c1, decide_eq_true c2, Bool.true_and, Bool.true_and] at q1
        exact q1
    · rw [no (by rw [decide_eq_false c2, Bool.and_false])] at q0
      exact ifn (decide_eq_false c2) q0
  · rw [no (by rw [decide_eq_false c1, Bool.false_and])] at q0
    exact ifn (decide_eq_false c1) ⟨_, rfl, ifF q0⟩

end
end Vf

set_option maxRecDepth 100000
set_option maxHeartbeats 4000000
namespace Vf
open PySem PySem.Spec PyProof.Rows L2 SX
section
variable {P : Program} {w : World} {K : PySem.W.Frag} {mg : Str → Option Value} {base : Heap}
theorem ok_lawWord {f : Addr} {fd : FuncData} (F : C8.Def K mg "_law_word" s_lawWord f fd) (b : Binds K fd ["_law_pen_here", "_law_signs", "_law_most"] []) (T : Tx K w mg) (C_draw : C8.Cal P w K mg base 1 "_law_draw" sp_draw []) (C_pick : C8.Cal P w K mg base 2 "_law_pick" sp_pick []) : C8.Cal P w K mg base 3 "_law_word" sp_lawWord [] := by
  refine C8.cal0 F b .nil sc_lawWord (fun vs H Q E h => ?_) (fun cdv A outer s H vs Q E hr h => ?_)
  · obtain ⟨p, c, a, m, n, sg, rfl, _⟩ := h; rfl
  have hu := hu_of hr
  refine ⟨_, (pss_one (ps_ret (pe_join pe_str (pe_lc (own := [("_law_k", 3)]) (g := (gName 3)) (tt := tYes) rfl sc_lawWord.nd (pi_range1 (by rfl) T.z_range (pa_cons (pe_op op_add pe_int (C8.pe_c C_draw hr (by decide) rfl (pa_cons (pv 0) (pa_cons (pv 2) pa_nil)))) pa_nil)) (blkOk_by (N := N_lawWord) (sc := C8.fnScope s_lawWord) (by decide +kernel)) (fun _ _ _ _ _ => pg_name (i := 3) sc_lawWord.nd rfl (Or.inl rfl)) (fun _ _ _ _ _ => pts_nil) (fun _ _ _ _ _ => (C8.pe_c C_pick hr (by decide) rfl (pa_cons (pv 0) (pa_cons (pv 1) pa_nil)))))))), ?_⟩

  obtain ⟨p, c, a, m, n, sg, rfl, hp, hm, ha, ⟨hs1, hs2, hs3⟩, hn1, hn2, q⟩ := h
  refine ⟨⟨_, rfl⟩, _, rfl, _, rfl, p, c, m, n, rfl, hp, by omega, hn1, by omega, fun H1 r k1 k2 hr1 => ?_⟩
  refine ⟨_, _, rfl, rfl, _, rfl, by omega, by omega, fun D hD => ?_⟩
  rw [show ((1 : Int) + (r : Int)).toNat = 1 + r by omega]
  refine lc_penK (m0 := m + 1) (s := 1) (k := 3) (fun v _ => Ones (· ∈ sg) v) (fun _ _ _ _ h => h) (by show 3 < 4; decide) hD k2 (by omega) (fun i H2 m2 Q2 hi kk hp2 hm2 hq => ?_) (fun H2 xs e1 e2 e3 e4 e5 => ?_)
  · refine ⟨_, rfl, _, rfl, p, c, m2, _, rfl, hp2, by omega, .inr ⟨a, _, rfl, kk.lst (k1.lst ha), by rw [List.length_map]; exact hs1, by rw [List.length_map]; omega, fun H3 v j1 j2 j3 => ?_⟩⟩
    obtain ⟨ch, hc, rfl⟩ := List.mem_map.mp j3
    exact hq H3 _ j1 j2 ⟨ch, rfl, hc⟩
  · obtain ⟨t, rfl, ht⟩ := ones_of e2
    have et : t.length = 1 + r := by rw [← e1, List.length_map, List.length_map]
    refine ⟨S [], D, t.map fun c => S [c], rfl, rfl, .inl (SqL.of e3), ones_bound (by omega), ?_⟩
    rw [join_ones]
    exact q H2 t (k1.trans e4) (e5.mono (by omega)) (by omega) (by omega) ht

end
end Vf

set_option maxRecDepth 100000
set_option maxHeartbeats 4000000
namespace Vf
open PySem PySem.Spec PyProof.Rows L2 SX
section
variable {P : Program} {w : World} {K : PySem.W.Frag} {mg : Str → Option Value} {base : Heap}
theorem ok_lawWrongColumn {f : Addr} {fd : FuncData} (F : C8.Def K mg "_law_wrong_column" s_lawWrongColumn f fd) (b : Binds K fd ["_law_line", "_law_openings"] []) (T : Tx K w mg) (C_wordStands : C8.Cal P w K mg base 4 "_law_word_stands" (sp_wordStands K) []) : C8.Cal P w K mg base 5 "_law_wrong_column" (sp_lawWrongColumn K) [] := by
  refine C8.cal0 F b .nil sc_lawWrongColumn (fun vs H Q E h => ?_) (fun cdv A outer s H vs Q E hr h => ?_)
  · obtain ⟨o, os, l, rfl, _⟩ := h; rfl
  have hu := hu_of hr
  refine ⟨_, (pss_cons (ps_par (i := 2) (j := 3) (by rfl) sc_lawWrongColumn.nd rfl rfl (by decide) rfl rfl (pa_cons (pe_split (pv 0) pe_str) (pa_cons pe_int pa_nil)) (by rfl))
      (pss_cons (ps_for PassesOwn.never rfl (pi_range1 (by rfl) T.z_range (pa_cons (pe_callB call_len (by rfl) T.z_len PySem.boot_len (pa_cons (pv 2) pa_nil)) pa_nil)) (pg_name (i := 4) sc_lawWrongColumn.nd rfl (Or.inl rfl))
      (pss_cons (ps_if (pt_not (pt_val (C8.pe_c C_wordStands hr (by decide) rfl (pa_cons (pe_slice sl_list (pv 2) po_none (po_some (pv 4))) (pa_cons (pe_ix ix_list (pv 2) (pv 4) (fun _ _ => rfl)) (pa_cons (pv 1) pa_nil))))))
      (pss_one (ps_ret (pv 3)))
      pss_nil)
      (pss_one (ps_set (i := 3) sc_lawWrongColumn.nd rfl (Or.inl rfl) (pe_op op_add (pe_op op_add (pv 3) (pe_callB call_len (by rfl) T.z_len PySem.boot_len (pa_cons (pe_ix ix_list (pv 2) (pv 4) (fun _ _ => rfl)) pa_nil))) pe_int)))))
      (C8.pss_cut (ps_if (PW.pt (pw_or (pt_cmpR op_lt (pe_callB call_len (by rfl) T.z_len PySem.boot_len (pa_cons (pv 2) pa_nil)) pe_int (nomark _)) (pw_or1 (PW.pt (pw_and (pt_cmpR op_gt (pe_callB call_len (by rfl) T.z_len PySem.boot_len (pa_cons (pv 2) pa_nil)) pe_int (nomark _)) (pw_and1 (pt_cmpR op_in_seq (pe_ix ix_list (pv 2) (pe_un un_neg pe_int) (fun _ _ => rfl)) (pe_lst (pa_cons pe_str (pa_cons pe_str pa_nil))) rfl)))))))
      (pss_one (ps_ret (pe_op op_add (pe_callB call_len (by rfl) T.z_len PySem.boot_len (pa_cons (pv 0) pa_nil)) pe_int)))
      pss_nil)
      (pss_one (ps_ret pe_int))))), ?_⟩

  obtain ⟨o, os, l, rfl, ho, hg, q⟩ := h
  have hl := hg.1
  obtain ⟨b1, b2, b3⟩ := spS_bnd l
  have bch := spS_ch hg.ch
  refine ⟨_, rfl, ⟨_, rfl⟩, _, _, rfl, rfl, by decide +kernel, szB (by omega), fun W hW => ⟨_, _, rfl, ?_⟩⟩
  have eW : Txt.split l (Str.ofString " ") = spS l := rfl
  rw [eW]
  have z1 : (spS l).length ≤ 1001 := by omega
  have gW : (upd H W (.lst ((spS l).map V.str))) W = some (.lst ((spS l).map V.str)) := upd_same
  refine ⟨_, rfl, _, (spS l).length, rfl, .inl ⟨_, SqL.of gW, (List.length_map ..).symm⟩, ((spS l).length : Int), rfl, by omega, by omega, ?_⟩
  rw [show (((spS l).length : Int)).toNat = (spS l).length by omega]
  refine for_range (lo := 0) (n := (spS l).length) (fun i σ H' => ∃ (c : Nat) (v4 : Option V), σ = [some (.str l), some (.ref o), some (.ref W), some (.int (c : Int)), v4] ∧ H' W = some (.lst ((spS l).map V.str)) ∧ Same H H' ∧ Vd ((spS l).take i) os ∧ wcGo os [] (spS l) 1 = wcGo os ((spS l).take i) ((spS l).drop i) c)
    ⟨1, none, rfl, gW, same1 hW _, vd_nil os, rfl⟩ ?_ ?_
  · rintro i σ H1 hi ⟨c, v4, rfl, h1, s1, vd, e⟩
    have hw' : (spS l)[i]? = some (spS l)[i] := List.getElem?_eq_getElem hi
    generalize (spS l)[i] = w' at hw'
    refine ⟨_, rfl, _, rfl, ((0 : Int) + (i : Int)), rfl, W, _, rfl, SqL.of h1, fun G hG => ?_⟩
    rw [show ((0 : Int) + (i : Int)) = ((i : Nat) : Int) by omega, cut_to, strs_take]
    have s3 := same_new s1 hG (.lst (((spS l).take i).map V.str))
    have h3 : (upd H1 G (.lst (((spS l).take i).map V.str))) W = some (.lst ((spS l).map V.str)) := by rw [upd_ne (ne_of_none h1 hG)]; exact h1
    have hwl : w'.length ≤ 1000 := Nat.le_trans (b2 w' (List.mem_of_getElem? hw')) hl
    have at0 : atI ((spS l).map V.str) (i : Int) = some (.str w') := atI_nat (by rw [List.getElem?_map, hw']; rfl)
    refine ⟨_, rfl, _, rfl, W, _, _, _, rfl, rfl, SqL.of h3, at0, _, rfl, G, o, (spS l).take i, os, w', rfl, SqL.of upd_same, sqL_same s3 ho, by rw [List.length_take]; omega, fun x hx => bch x (List.mem_of_mem_take hx), hwl, bch w' (List.mem_of_getElem? hw'), fun H3 s4 => ⟨_, rfl, ?_⟩⟩
    have ed : (spS l).drop i = w' :: (spS l).drop (i + 1) := by
      obtain ⟨hlt, eg⟩ := List.getElem?_eq_some_iff.mp hw'
      rw [← eg]; exact List.drop_eq_getElem_cons hlt
    have et : (spS l).take (i + 1) = (spS l).take i ++ [w'] := by rw [List.take_add_one, hw']; rfl
    rw [ed] at e
    rw [wcGo_cons] at e
    have sH : Same H H3 := fun b u z => s4 _ _ (s3 b u z)
    cases cb : canB ((spS l).take i) w' os with
    | false =>
      rw [cb, if_neg Bool.false_ne_true] at e
      refine ifT ⟨_, rfl, ?_⟩
      have qq := q H3 sH
      unfold wcol at qq
      rw [e] at qq
      exact qq
    | true =>
      rw [cb, if_pos rfl] at e
      refine ifF ⟨_, rfl, _, rfl, _, rfl, W, _, _, _, rfl, rfl, SqL.of (s4 _ _ h3), at0, _, w'.length, rfl, ⟨szB (by omega), rfl⟩, _, _, rfl, rfl, _, _, rfl, rfl, ?_⟩
      refine ⟨c + (w'.length + 1), some (.int (i : Int)), ?_, s4 _ _ h3, sH, by rw [et]; exact vd_snoc vd cb, by rw [et]; exact e⟩
      rw [show (((c + (w'.length + 1) : Nat)) : Int) = (c : Int) + (w'.length : Int) + 1 by omega]
      rfl
  · rintro σ H1 ⟨c, v4, rfl, h1, s1, vd, e⟩
    rw [List.drop_length, List.take_length] at e
    rw [List.take_length] at vd
    have en : wcGo os [] (spS l) 1 = none := e
    have qw : ∀ H', Same H H' → Q (colV (.int 0) (if (spS l).length < 4 ∨ (spS l).getLast? = some ("nested" : Str) ∨ (spS l).getLast? = some ("escape" : Str) then some (l.length + 1) else none)) H' := fun H' s' => by
      have := q H' s'
      unfold wcol at this
      rw [en] at this
      exact this
    refine ⟨fun σ' H' => Same H H' ∧ σ' = [some (.str l), some (.ref o), some (.ref W), some (.int (c : Int)), v4] ∧ ¬ ((spS l).length < 4 ∨ (spS l).getLast? = some ("nested" : Str) ∨ (spS l).getLast? = some ("escape" : Str)), ?_, ?_⟩
    · refine ⟨_, rfl, _, (spS l).length, rfl, .inl ⟨_, SqL.of h1, (List.length_map ..).symm⟩, _, _, rfl, rfl, _, rfl, ?_⟩
      have e4 : decide (((spS l).length : Int) < 4) = decide ((spS l).length < 4) := decide_eq_decide.mpr (by omega)
      rw [e4]
      by_cases c4 : (spS l).length < 4
      · refine ify (decide_eq_true c4) ?_
        have := qw H1 s1
        rw [if_pos (.inl c4)] at this
        exact ⟨_, rfl, _, l.length, rfl, ⟨szB (by omega), rfl⟩, _, _, rfl, rfl, this⟩
      · refine ifn (decide_eq_false c4) ?_
        obtain ⟨u, gl, lst⟩ := at_lastS (ws := spS l) (by intro z; rw [z] at b3; exact absurd b3 (by decide))
        refine ⟨_, rfl, _, (spS l).length, rfl, .inl ⟨_, SqL.of h1, (List.length_map ..).symm⟩, _, _, rfl, rfl, _, rfl, ?_⟩
        have e5 : decide ((4 : Int) < ((spS l).length : Int)) = decide (4 < (spS l).length) := decide_eq_decide.mpr (by omega)
        rw [e5]
        have l1 := vd_last vd (by omega) (.inl rfl)
        have l2 := vd_last vd (by omega) (.inr rfl)
        by_cases c45 : 4 < (spS l).length
        case neg =>
          have e0 : (spS l).drop 4 = [] := List.drop_eq_nil_of_le (by omega)
          rw [e0] at l1 l2
          refine ifn (decide_eq_false c45) ⟨s1, rfl, ?_⟩
          rintro (z | z | z)
          · exact c4 z
          · have := l1.mp z; cases this
          · have := l2.mp z; cases this
        refine ify (decide_eq_true c45) ?_
        refine ⟨_, rfl, _, rfl, W, _, _, _, rfl, rfl, SqL.of h1, lst, sz_2, fun t ht => ?_⟩
        refine ⟨t, _, rfl, .inl (SqL.of upd_same), rfl, rfl, _, rfl, ?_⟩
        rw [if_neg Bool.false_ne_true, show ([V.str "nested", V.str "escape"] : List V) = (["nested", "escape"] : List Str).map V.str from rfl, inV_strs]
        have s2 := same_new s1 ht (.lst ((["nested", "escape"] : List Str).map V.str))
        by_cases c5 : u ∈ (["nested", "escape"] : List Str)
        · refine ify (decide_eq_true c5) ?_
          have c6 : u = "nested" ∨ u = "escape" := by simpa using c5
          have := qw _ s2
          rw [if_pos (.inr (by rw [gl]; rcases c6 with z | z <;> rw [z] <;> simp))] at this
          exact ⟨_, rfl, _, l.length, rfl, ⟨szB (by omega), rfl⟩, _, _, rfl, rfl, this⟩
        · refine ifn (decide_eq_false c5) ⟨s2, rfl, ?_⟩
          have c6 : u ≠ "nested" ∧ u ≠ "escape" := by simpa using c5
          rw [gl]
          rintro (z | z | z)
          · exact c4 z
          · exact c6.1 (Option.some.inj z)
          · exact c6.2 (Option.some.inj z)
    · rintro σ' H2 ⟨s2, rfl, nn⟩
      have := qw H2 s2
      rw [if_neg nn] at this
      exact this

end
end Vf

set_option maxRecDepth 100000
set_option maxHeartbeats 4000000
namespace Vf
open PySem PySem.Spec PyProof.Rows L2 SX
section
variable {P : Program} {w : World} {K : PySem.W.Frag} {mg : Str → Option Value} {base : Heap}
def mkKey (H : Hp) : V → Int
  | .ref t => match H t with
    | some (.tup (.str x :: _)) => -(x.length : Int)
    | _ => 0
  | _ => 0
theorem mkKey_at {H : Hp} {t : Addr} {x : Str} {r : List V} (h : H t = some (.tup (.str x :: r))) : mkKey H (.ref t) = -(x.length : Int) := by
  show (match H t with | some (.tup (.str x :: _)) => -(x.length : Int) | _ => 0) = _
  rw [h]
theorem ok_longestFirst {f : Addr} {fd : FuncData} {P0 cc : Addr} (F : FunC K mg "longest_first" s_longestFirst f fd cc) (b : Binds K fd ["marks"] []) (T : Tx K w mg) (TB : LamX.TabB base mg cc P0) : C8.Cal P w K mg base 4 "longest_first" (sp_longestFirst K P0) [] := by
  refine cal0c F b sc_longestFirst (fun vs H Q E h => ?_) (fun A outer s H vs Q E hr h => ?_)
  · obtain ⟨a, xs, rfl, _⟩ := h; rfl
  have hu := hu_of hr
  refine ⟨_, (pss_one (ps_ret (pe_callTy call_tuple_of (by rfl) T.z_tuple (by decide +kernel) (pa_cons (pe_sortedK (k := 0) (T := [(P0, lamQ)]) (x := "mark") (N := ["mark"]) (by rfl) T.z_sorted TB rfl (List.mem_singleton.mpr rfl) (fun p hp _ => by rw [List.mem_singleton.mp hp]; rfl) (hr.mono (by decide)) (C8.fnScope_by (by decide +kernel)) rfl (fun _ _ _ _ _ _ => rfl) (fun A outer s H f c' hr => (pe_un un_neg (pe_callB (call_lenK (K := K) rfl) (by rfl) T.z_len PySem.boot_len (pa_cons (pe_ix (ix_tupK (K := K) rfl) (pv 0) pe_int (fun _ _ => rfl)) pa_nil)))) (pa_cons (pv 0) pa_nil)) pa_nil)))), ?_⟩

  obtain ⟨a, xs, rfl, ha, hz, hm, tb, q⟩ := h
  refine ⟨_, rfl, a, xs, mkKey H, rfl, ha, hz, tb, fun H2 e2 y hy => ?_, fun H2 D ys e2 tb2 hD _ _ => ?_⟩
  · obtain ⟨t, x, u, rfl, ht, hx⟩ := hm y hy
    have ht2 := e2 _ _ ht (fun _ z => nomatch z)
    refine ⟨_, rfl, t, _, 0, .str x, rfl, rfl, SqT.of ht2, rfl, _, x.length, rfl, ⟨szB (by omega), rfl⟩, _, rfl, ?_, rfl⟩
    show V.int (-(x.length : Int)) = V.int (mkKey H (.ref t))
    exact congrArg V.int (mkKey_at ht).symm
  · refine ⟨D, ys, rfl, .inl ⟨SqL.of upd_same, fun l hl => ?_⟩⟩
    refine q _ _ (fun b o z n => ?_) ?_
    · have z2 := e2 b o z n
      have z3 : (upd H2 D (.lst ys)) b = some o := by rw [upd_ne (ne_of_none z2 hD)]; exact z2
      rw [upd_ne (ne_of_none z3 hl)]
      exact z3
    · exact (tb2.ext (same1 hD _)).ext (same1 hl _)

end
end Vf

set_option maxRecDepth 100000
set_option maxHeartbeats 4000000
namespace Vf
open PySem PySem.Spec PyProof.Rows L2 SX
section
variable {P : Program} {w : World} {K : PySem.W.Frag} {mg : Str → Option Value} {base : Heap}
theorem ok_markSigns {f : Addr} {fd : FuncData} (F : C8.Def K mg "_law_mark_signs" s_markSigns f fd) (b : Binds K fd [] []) (T : Tx K w mg)  : C8.Cal P w K mg base 1 "_law_mark_signs" sp_markSigns [] := by
  refine C8.cal0 F b .nil sc_markSigns (fun vs H Q E h => ?_) (fun cdv A outer s H vs Q E hr h => ?_)
  · obtain ⟨rfl, _⟩ := h; rfl
  have hu := hu_of hr
  refine ⟨_, (pss_one (ps_ret (pe_callTy (call_listS rfl) (by rfl) T.z_list (by decide +kernel) (pa_cons pe_str pa_nil)))), ?_⟩

  obtain ⟨rfl, q⟩ := h
  refine ⟨mkL, by decide +kernel, by decide, fun p hp => ?_⟩
  exact q _ p (same1 hp _) hp upd_same

end
end Vf

set_option maxRecDepth 100000
set_option maxHeartbeats 4000000
namespace Vf
open PySem PySem.Spec PyProof.Rows L2 SX
section
variable {P : Program} {w : World} {K : PySem.W.Frag} {mg : Str → Option Value} {base : Heap}
theorem ok_newRule {f : Addr} {fd : FuncData} (F : C8.Def K mg "_law_new_rule" s_newRule f fd) (b : Binds K fd ["_law_pen_here", "_law_mark", "_law_signs", "_law_most"] []) (T : Tx K w mg) (C_pick : C8.Cal P w K mg base 2 "_law_pick" sp_pick []) (C_lawWord : C8.Cal P w K mg base 3 "_law_word" sp_lawWord []) (C_draw : C8.Cal P w K mg base 1 "_law_draw" sp_draw []) : C8.Cal P w K mg base 4 "_law_new_rule" sp_newRule [] := by
  refine C8.cal0 F b .nil sc_newRule (fun vs H Q E h => ?_) (fun cdv A outer s H vs Q E hr h => ?_)
  · obtain ⟨p, c, a, m, o, l, rfl, _⟩ := h; rfl
  have hu := hu_of hr
  refine ⟨_, (pss_cons (ps_set (i := 4) sc_newRule.nd rfl (Or.inl rfl) (C8.pe_c C_pick hr (by decide) rfl (pa_cons (pv 0) (pa_cons (pe_lst (pa_cons pe_str (pa_cons pe_str (pa_cons pe_str pa_nil)))) pa_nil))))
      (pss_cons (ps_par (i := 5) (j := 6) (by rfl) sc_newRule.nd rfl rfl (by decide) rfl rfl (pa_cons (C8.pe_c C_draw hr (by decide) rfl (pa_cons (pv 0) (pa_cons pe_int pa_nil))) (pa_cons (C8.pe_c C_lawWord hr (by decide) rfl (pa_cons (pv 0) (pa_cons (pv 2) (pa_cons (pv 3) pa_nil)))) pa_nil)) (by rfl))
      (C8.pss_cut (ps_set (i := 6) sc_newRule.nd rfl (Or.inl rfl) (pe_ifExp (pt_cmpR op_lt (pv 5) pe_int (nomark _)) pe_str (pe_ifExp (pt_cmpR op_eq (pv 5) pe_int (nomark _)) (pv 1) (pv 6))))
      (C8.pss_cut (ps_set (i := 7) sc_newRule.nd rfl (Or.inl rfl) (pe_and (pe_cmpR op_eq (pv 4) pe_str (nomark _)) (pe_and (pe_cmpR op_ne (pv 6) pe_str (nomark _)) (pe_and (pe_cmpR op_ne (pv 6) (pv 1) (nomark _)) (pe_one (pe_cmpR op_in_seq (pv 5) (pe_tup (pa_cons pe_int (pa_cons pe_int pa_nil))) rfl))))))
      (C8.pss_cut (ps_set (i := 8) sc_newRule.nd rfl (Or.inl rfl) (pe_ifExp (pt_cmpR op_eq (C8.pe_c C_draw hr (by decide) rfl (pa_cons (pv 0) (pa_cons pe_int pa_nil))) pe_int (nomark _)) (C8.pe_c C_pick hr (by decide) rfl (pa_cons (pv 0) (pa_cons (pv 2) pa_nil))) pe_str))
      (C8.pss_cut (ps_set (i := 9) sc_newRule.nd rfl (Or.inl rfl) (pe_and (pe_cmpR op_ne (pv 6) pe_str (nomark _)) (pe_and (pe_not (pv 7)) (pe_one (pe_cmpR op_in_seq (pv 5) (pe_tup (pa_cons pe_int (pa_cons pe_int pa_nil))) rfl)))))
      (C8.pss_cut (ps_set (i := 10) sc_newRule.nd rfl (Or.inl rfl) (pe_and (pe_cmpR op_ne (pv 6) pe_str (nomark _)) (pe_one (pe_cmpR op_eq (C8.pe_c C_draw hr (by decide) rfl (pa_cons (pv 0) (pa_cons pe_int pa_nil))) pe_int (nomark _)))))
      (pss_one (ps_ret (pe_tup (pa_cons (pv 4) (pa_cons (pv 1) (pa_cons (pv 6) (pa_cons (pe_ifExp (pt_val (pv 7)) (pe_op op_add pe_int (C8.pe_c C_draw hr (by decide) rfl (pa_cons (pv 0) (pa_cons pe_int pa_nil)))) pe_int) (pa_cons (pv 8) (pa_cons (pv 9) (pa_cons (pv 10) pa_nil))))))))))))))))), ?_⟩

  obtain ⟨p, c, a, m, o, l, rfl, hp, hm, go, ha, hs, q⟩ := h
  have step : ∀ {t : TS} {u : TS} {D : Ends} {σ : L2.St} {H1 : Hp} (R : L2.St → Hp → Prop), t { D with nx := R } σ H1 → (∀ σ' H', R σ' H' → u D σ' H') → C8.tCut t u D σ H1 := fun _ h1 h2 => ⟨_, h1, h2⟩
  have gg : ∀ z ∈ (["remark", "quote", ""] : List Str), GoodS 8 z := goods_of (by decide +kernel)
  refine ⟨_, rfl, szB (by decide), fun B hB => ?_⟩
  refine ⟨p, c, m, _, rfl, hp.new hB, by omega, .inr ⟨B, _, rfl, upd_same, by decide, by decide, fun H1 vk k1 p1 hk => ?_⟩⟩
  have k1' := (Ks.new1 hB _).trans k1
  have hk' : ∃ kd : Str, vk = .str kd ∧ GoodS 8 kd := by
    simp only [List.mem_cons, List.not_mem_nil, or_false] at hk
    rcases hk with rfl | rfl | rfl
    · exact ⟨_, rfl, gg _ (by simp)⟩
    · exact ⟨_, rfl, gg _ (by simp)⟩
    · exact ⟨_, rfl, gg _ (by simp)⟩
  obtain ⟨kd, rfl, gk⟩ := hk'
  refine ⟨_, rfl, p, c, _, 8, rfl, p1, by omega, by decide, by decide, fun H2 way k2 p2 hw => ?_⟩
  refine ⟨_, rfl, _, rfl, _, rfl, p, c, a, m + 1 + 1, 4, l, rfl, p2, by omega, k2.lst (k1'.lst ha), hs, by decide, by decide, fun H3 t k3 p3 t1 t2 t3 => ?_⟩
  have k03 := k1'.trans (k2.trans k3)
  refine ⟨_, _, rfl, ?_⟩
  refine step (fun σ' H' => ∃ cl, σ' = [some (.ref p), some (.str o), some (.ref a), some (.int 4), some (.str kd), some (.int (way : Int)), some (.str cl), none, none, none, none] ∧ GoodS 8 cl ∧ Ks H H' ∧ PenAt H' p c (m + 7)) ?_ ?_
  · have fin : ∀ cl : Str, GoodS 8 cl → ∃ cl', [some (V.ref p), some (V.str o), some (V.ref a), some (V.int 4), some (V.str kd), some (V.int (way : Int)), some (V.str cl), none, none, none, none] = [some (V.ref p), some (V.str o), some (V.ref a), some (V.int 4), some (V.str kd), some (V.int (way : Int)), some (V.str cl'), none, none, none, none] ∧ GoodS 8 cl' ∧ Ks H H3 ∧ PenAt H3 p c (m + 7) := fun cl g => ⟨cl, rfl, g, k03, p3.mono (by omega)⟩
    refine ⟨_, rfl, _, _, rfl, rfl, _, rfl, ?_⟩
    refine ite2 (fun _ => fin "" (gg _ (by simp))) fun _ => ⟨_, rfl, rfl, _, rfl, ?_⟩
    exact ite2 (fun _ => ⟨_, rfl, fin o go⟩) fun _ => ⟨_, rfl, fin (S t) ((good_of hs t3 t2).mono (by decide))⟩
  rintro σ1 H4 ⟨cl, rfl, gc, k4, p4⟩
  refine step (fun σ' H' => ∃ b, σ' = [some (.ref p), some (.str o), some (.ref a), some (.int 4), some (.str kd), some (.int (way : Int)), some (.str cl), some (.bl b), none, none, none] ∧ Ks H H' ∧ PenAt H' p c (m + 7)) ?_ ?_
  · refine ⟨_, rfl, rfl, _, rfl, ?_⟩
    refine ite2 (fun _ => ⟨_, rfl, rfl, _, rfl, ?_⟩) fun _ => ⟨false, rfl, k4, p4⟩
    refine ite2 (fun _ => ⟨_, rfl, _, rfl, rfl, _, rfl, ?_⟩) fun _ => ⟨false, rfl, k4, p4⟩
    refine ite2 (fun _ => ⟨_, rfl, szB (by decide), fun L hL => ⟨L, _, rfl, .inr (SqT.of upd_same), rfl, rfl, _, rfl, k4.new hL _, p4.new hL⟩⟩) fun _ => ⟨false, rfl, k4, p4⟩
  rintro σ1 H5 ⟨b7, rfl, k5, p5⟩
  refine step (fun σ' H' => ∃ es, σ' = [some (.ref p), some (.str o), some (.ref a), some (.int 4), some (.str kd), some (.int (way : Int)), some (.str cl), some (.bl b7), some (.str es), none, none] ∧ GoodS 8 es ∧ Ks H H' ∧ PenAt H' p c (m + 9)) ?_ ?_
  · refine ⟨_, rfl, p, c, _, 4, rfl, p5, by omega, by decide, by decide, fun H6 r k6 p6 hr6 => ⟨rfl, _, rfl, ?_⟩⟩
    have k6' := k5.trans k6
    refine ite2 (fun _ => ⟨_, rfl, _, rfl, p, c, _, _, rfl, p6, by omega, .inr ⟨a, _, rfl, k6'.lst ha, by rw [List.length_map]; exact hs.1, by rw [List.length_map]; have := hs.2.1; omega, fun H7 v k7 p7 hv => ?_⟩⟩) fun _ => ⟨"", rfl, gg _ (by simp), k6', p6.mono (by omega)⟩
    obtain ⟨x, hx, rfl⟩ := List.mem_map.mp hv
    exact ⟨S [x], rfl, (good_of (t := [x]) hs (fun y hy => by rw [List.mem_singleton.mp hy]; exact hx) (Nat.le_refl 1)).mono (by decide), k6'.trans k7, p7.mono (by omega)⟩
  rintro σ1 H6 ⟨es, rfl, ge, k6, p6⟩
  refine step (fun σ' H' => ∃ b, σ' = [some (.ref p), some (.str o), some (.ref a), some (.int 4), some (.str kd), some (.int (way : Int)), some (.str cl), some (.bl b7), some (.str es), some (.bl b), none] ∧ Ks H H' ∧ PenAt H' p c (m + 9)) ?_ ?_
  · refine ⟨_, rfl, rfl, _, rfl, ?_⟩
    refine ite2 (fun _ => ⟨_, rfl, _, rfl, _, rfl, ?_⟩) fun _ => ⟨false, rfl, k6, p6⟩
    refine ite2 (fun _ => ⟨_, rfl, szB (by decide), fun L hL => ⟨L, _, rfl, .inr (SqT.of upd_same), rfl, rfl, _, rfl, k6.new hL _, p6.new hL⟩⟩) fun _ => ⟨false, rfl, k6, p6⟩
  rintro σ1 H7 ⟨b9, rfl, k7, p7⟩
  refine step (fun σ' H' => ∃ b, σ' = [some (.ref p), some (.str o), some (.ref a), some (.int 4), some (.str kd), some (.int (way : Int)), some (.str cl), some (.bl b7), some (.str es), some (.bl b9), some (.bl b)] ∧ Ks H H' ∧ PenAt H' p c (m + 10)) ?_ ?_
  · refine ⟨_, rfl, rfl, _, rfl, ?_⟩
    refine ite2 (fun _ => ⟨_, rfl, p, c, _, 4, rfl, p7, by omega, by decide, by decide, fun H8 r k8 p8 hr8 => ⟨rfl, _, rfl, k7.trans k8, p8.mono (by omega)⟩⟩) fun _ => ⟨false, rfl, k7, p7.mono (by omega)⟩
  rintro σ1 H8 ⟨b10, rfl, k8, p8⟩
  have fin : ∀ (H9 : Hp) (d : Nat), d ≤ 4 → Ks H H9 → PenAt H9 p c (m + 11) → ∀ L, H9 L = none → Q (.ref L) (upd H9 L (.tup (r7 kd o cl d es b9 b10))) := fun H9 d hd k9 p9 L hL =>
    q _ _ (k9.new hL _) ((p9.new hL).mono (by omega)) ⟨L, kd, o, cl, d, es, b9, b10, rfl, upd_same, gk, go, gc, hd, ge⟩
  refine ⟨_, rfl, _, rfl, _, rfl, _, rfl, _, rfl, ?_⟩
  cases b7 with
  | true =>
    refine ifT ⟨_, rfl, p, c, _, 3, rfl, p8, by omega, by decide, by decide, fun H9 r k9 p9 hr9 => ⟨_, _, rfl, rfl, _, rfl, _, rfl, _, rfl, szB (n := 7) (by decide), fun L hL => ?_⟩⟩
    have e : ((2 : Int) + (r : Int)) = ((2 + r : Nat) : Int) := by omega
    show Q (.ref L) (upd H9 L (.tup [.str kd, .str o, .str cl, .int ((2 : Int) + (r : Int)), .str es, .bl b9, .bl b10]))
    rw [e]
    exact fin H9 (2 + r) (by omega) (k8.trans k9) p9 L hL
  | false => exact ifF ⟨_, rfl, _, rfl, _, rfl, szB (n := 7) (by decide), fun L hL => fin H8 0 (by decide) k8 (p8.mono (by omega)) L hL⟩

end
end Vf

set_option maxRecDepth 100000
set_option maxHeartbeats 4000000
namespace Vf
open PySem PySem.Spec PyProof.Rows L2 SX
section
variable {P : Program} {w : World} {K : PySem.W.Frag} {mg : Str → Option Value} {base : Heap}
theorem mk_ok : ∀ c ∈ mkL, c ≠ 10 ∧ c < 1000 := by
  have : (mkL.all fun c => decide (c ≠ 10 ∧ c < 1000)) = true := by decide +kernel
  exact fun c hc => of_decide_eq_true (List.all_eq_true.mp this c hc)
theorem ok_newRules {f : Addr} {fd : FuncData} (F : C8.Def K mg "_law_new_rules" s_newRules f fd) (b : Binds K fd ["_law_pen_here", "_law_many", "_law_most"] []) (T : Tx K w mg) (C_some : C8.Cal P w K mg base 2 "_law_some" sp_some []) (C_draw : C8.Cal P w K mg base 1 "_law_draw" sp_draw []) (C_markSigns : C8.Cal P w K mg base 1 "_law_mark_signs" sp_markSigns []) (C_lawWord : C8.Cal P w K mg base 3 "_law_word" sp_lawWord []) (C_newRule : C8.Cal P w K mg base 4 "_law_new_rule" sp_newRule []) : C8.Cal P w K mg base 5 "_law_new_rules" sp_newRules [] := by
  refine C8.cal0 F b .nil sc_newRules (fun vs H Q E h => ?_) (fun cdv A outer s H vs Q E hr h => ?_)
  · obtain ⟨p, c, m, n, rfl, _⟩ := h; rfl
  have hu := hu_of hr
  refine ⟨_, (pss_cons (ps_asg (pe_tup (pa_cons (C8.pe_c C_some hr (by decide) rfl (pa_cons (pv 0) (pa_cons (pe_c0 C_markSigns hr (by decide) rfl) (pa_cons (pe_op op_add pe_int (C8.pe_c C_draw hr (by decide) rfl (pa_cons (pv 0) (pa_cons pe_int pa_nil)))) pa_nil)))) (pa_cons (pe_lst pa_nil) pa_nil))) (pg_tup (by rfl) (pgs_cons (pg_name (i := 3) sc_newRules.nd rfl (Or.inr rfl)) (pgs_cons (pg_name (i := 4) sc_newRules.nd rfl (Or.inl rfl)) pgs_nil))))
      (pss_cons (ps_for PassesOwn.never rfl (pi_range1 (by rfl) T.z_range (pa_cons (pe_op op_mul pe_int (pv 1)) pa_nil)) (pg_name (i := 5) sc_newRules.nd rfl (Or.inl rfl))
      (pss_cons (ps_set (i := 6) sc_newRules.nd rfl (Or.inl rfl) (C8.pe_c C_lawWord hr (by decide) rfl (pa_cons (pv 0) (pa_cons (pv 3) (pa_cons (pv 2) pa_nil)))))
      (pss_one (ps_if (PW.pt (pw_and (pt_cmpR op_notIn_seq (pv 6) (pv 4) rfl) (pw_and1 (pt_cmpR op_lt (pe_callB call_len (by rfl) T.z_len PySem.boot_len (pa_cons (pv 4) pa_nil)) (pv 1) (nomark _)))))
      (pss_one (ps_expr (pe_bm PySem.F.plainAttrs_list PySem.F.slot_list_append PySem.F.type_list_append mt_append (pv 4) (pa_cons (pv 6) pa_nil))))
      pss_nil))))
      (pss_one (ps_ret (pe_lc (own := [("_law_mark", 6)]) (g := (gName 6)) (tt := tYes) rfl sc_newRules.nd (pi_list (pv 4)) (blkOk_by (N := N_newRules) (sc := C8.fnScope s_newRules) (by decide +kernel)) (fun _ _ _ _ _ => pg_name (i := 6) sc_newRules.nd rfl (Or.inl rfl)) (fun _ _ _ _ _ => pts_nil) (fun _ _ _ _ _ => (C8.pe_c C_newRule hr (by decide) rfl (pa_cons (pv 0) (pa_cons (pv 6) (pa_cons (pv 3) (pa_cons (pv 2) pa_nil))))))))))), ?_⟩

  obtain ⟨p, c, m, n, rfl, hp, hm, hn1, hn2, q⟩ := h
  refine ⟨_, rfl, rfl, fun H1 A s1 hA0 hA => ⟨_, rfl, p, c, m, 3, rfl, hp.same s1, by omega, by decide, by decide, fun H2 r k2 p2 hr2 => ⟨_, _, rfl, rfl, ?_⟩⟩⟩
  refine ⟨p, c, A, m + 1, 2 + r, mkL, congrArg (fun z : Int => [V.ref p, V.ref A, V.int z]) (show (2 : Int) + (r : Int) = ((2 + r : Nat) : Int) by omega), p2, by omega, k2.lst hA, by omega, by omega, by show _ ≤ 30; omega, by decide, fun H3 B l k3 p3 hB hl hx => ?_⟩
  have k03 := (Ks.of s1).trans (k2.trans k3)
  have hs : SgOk l := ⟨by omega, by omega, fun x h => mk_ok x (hx x h)⟩
  refine ⟨szB (by decide), fun M hM => ⟨szB (n := 2) (by decide), fun T0 hT0 => ?_⟩⟩
  refine ⟨T0, _, rfl, SqT.of upd_same, rfl, _, _, rfl, _, _, rfl, rfl, ?_⟩
  have hM3 : H3 M = none := hM
  have hM0 : H M = none := k03.free hM
  have nM := hp.ne hM0
  have hMT : (upd (upd H3 M (.lst [])) T0 (.tup [.ref B, .ref M])) M = some (.lst []) := by rw [upd_ne (ne_of_none (upd_same (H := H3) (a := M)) hT0)]; exact upd_same
  have k04 : Ks H (upd (upd H3 M (.lst [])) T0 (.tup [.ref B, .ref M])) := (k03.new hM _).new hT0 _
  have hBM : B ≠ M := ne_of_none hB hM
  have hB4 : (upd (upd H3 M (.lst [])) T0 (.tup [.ref B, .ref M])) B = some (.lst (l.map one)) := ((Ks.new1 hM _).new hT0 _).lst hB
  refine ⟨_, rfl, _, _, rfl, rfl, .inl ⟨by decide, by decide⟩, 2 * (n : Int), rfl, by omega, by omega, ?_⟩
  rw [show (2 * (n : Int)).toNat = 2 * n by omega]
  refine for_range (lo := 0) (n := 2 * n) (fun i σ H' => ∃ (v5 v6 : Option V) (ms : List Str), σ = [some (.ref p), some (.int (n : Int)), some (.int 4), some (.ref B), some (.ref M), v5, v6] ∧ H' M = some (.lst (ms.map V.str)) ∧ H' B = some (.lst (l.map one)) ∧ ms.length ≤ n ∧ (1 ≤ i → 1 ≤ ms.length) ∧ (∀ w ∈ ms, GoodS 8 w) ∧ Ks H H' ∧ PenAt H' p c (m + 5 + i * 5))
    ⟨none, none, [], rfl, hMT, hB4, Nat.zero_le _, (fun z => absurd z (by decide)), (fun _ z => nomatch z), k04, ((p3.new hM).new hT0).mono (by omega)⟩ ?_ ?_
  · rintro i σ H5 hi ⟨v5, v6, ms, rfl, hM5, hB5, e1, e2, e3, k5, p5⟩
    refine ⟨_, rfl, _, rfl, _, rfl, p, c, B, m + 5 + i * 5, 4, l, rfl, p5, by omega, hB5, hs, by decide, by decide, fun H6 t k6 p6 t1 t2 t3 => ?_⟩
    have hM6 := k6.lst hM5
    have hB6 := k6.lst hB5
    have p6' : PenAt H6 p c (m + 5 + (i + 1) * 5) := p6.mono (by omega)
    have k06 := k5.trans k6
    refine ⟨_, rfl, _, rfl, M, _, rfl, .inl (SqL.of hM6), rfl, flat_strs _, _, rfl, ?_⟩
    simp only [if_true, inV_strs]
    have stay : 1 ≤ ms.length → ∃ (v5' v6' : Option V) (ms' : List Str), [some (V.ref p), some (V.int (n : Int)), some (V.int 4), some (V.ref B), some (V.ref M), some (V.int (0 + (i : Int))), some (V.str (S t))] = [some (V.ref p), some (V.int (n : Int)), some (V.int 4), some (V.ref B), some (V.ref M), v5', v6'] ∧ H6 M = some (.lst (ms'.map V.str)) ∧ H6 B = some (.lst (l.map one)) ∧ ms'.length ≤ n ∧ (1 ≤ i + 1 → 1 ≤ ms'.length) ∧ (∀ w ∈ ms', GoodS 8 w) ∧ Ks H H6 ∧ PenAt H6 p c (m + 5 + (i + 1) * 5) := fun h => ⟨_, _, ms, rfl, hM6, hB6, e1, fun _ => h, e3, k06, p6'⟩
    by_cases c1 : S t ∈ ms
    · refine ifn (by rw [decide_eq_true c1]; rfl) ?_
      exact ifF (stay (List.length_pos_iff.mpr (List.ne_nil_of_mem c1)))
    · refine ify (by rw [decide_eq_false c1]; rfl) ⟨_, rfl, _, ms.length, rfl, .inl ⟨_, SqL.of hM6, (List.length_map ..).symm⟩, _, rfl, _, _, rfl, rfl, _, rfl, ?_⟩
      by_cases c2 : ms.length < n
      · refine ify (decide_eq_true (by omega)) ⟨_, rfl, .inl ⟨rfl, _, SqL.of hM6⟩, _, rfl, M, _, _, rfl, rfl, hM6, szL (by rw [List.length_map]; omega), _, _, ms ++ [S t], rfl, by rw [upd_same, List.map_append]; rfl, by rw [upd_ne hBM]; exact hB6, by rw [List.length_append]; show ms.length + 1 ≤ n; omega, fun _ => by rw [List.length_append]; show 1 ≤ ms.length + 1; omega, fun w hw => ?_, k06.upd hM0 _, p6'.upd nM.1 nM.2⟩
        rcases List.mem_append.mp hw with hw | hw
        · exact e3 w hw
        · rw [List.mem_singleton.mp hw]; exact (good_of hs t3 t2).mono (by decide)
      · exact ifn (decide_eq_false (by omega)) (stay (by omega))
  · rintro σ H5 ⟨v5, v6, ms, rfl, hM5, hB5, e1, e2, e3, k5, p5⟩
    have hms : 1 ≤ ms.length := e2 (by omega)
    refine ⟨_, rfl, M, rfl, ⟨_, SqL.of hM5⟩, fun D hD => ?_⟩
    refine lc_listK (p := p) (c := c) (m0 := m + 5 + 2 * n * 5) (s := 20) (k := 6) (fun _ v H => R7 v H) (fun _ _ _ _ t h => h.tk t) (by show 6 < 7; decide) hD hM5 p5 (by rw [List.length_map]; omega) (fun i x H6 m6 Q6 hx k6 p6 hm6 hq => ?_) (fun H6 ys y1 y2 y3 k6 p6 => ?_)
    · rw [List.getElem?_map] at hx
      cases hw : ms[i]? with
      | none => rw [hw] at hx; cases hx
      | some w =>
        rw [hw] at hx
        cases hx
        have hi := (List.getElem?_eq_some_iff.mp hw).1
        exact ⟨_, rfl, _, rfl, _, rfl, _, rfl, p, c, B, m6, w, l, rfl, p6, by omega, e3 w (List.mem_of_getElem? hw), k6.lst hB5, hs, fun H7 v k7 p7 r7 => hq H7 v k7 p7 r7⟩
    · rw [List.length_map] at y1 p6
      refine q H6 D ys (k5.trans k6) (p6.mono (by omega)) y3 (by omega) (by omega) fun r hr => ?_
      obtain ⟨i, hi, rfl⟩ := List.mem_iff_getElem.mp hr
      exact y2 i _ (List.getElem?_eq_getElem hi)

end
end Vf

set_option maxRecDepth 100000
set_option maxHeartbeats 4000000
namespace Vf
open PySem PySem.Spec PyProof.Rows L2 SX
section
variable {P : Program} {w : World} {K : PySem.W.Frag} {mg : Str → Option Value} {base : Heap}
def oddL : List Str := ["", "remark", "quote", "to", "line", "nested", "2", "4", "5", "1", "02", "escape", "doubled", "a", "_", "!", "#", "?????", "????", "Line", "nested 3", "escape !", "escape a", "line line", "Remark"]
theorem odd_good : ∀ z ∈ oddL, GoodS 10 z := by
  have : (oddL.all fun z => decide (z.length ≤ 10) && (TL.tl z).all fun c => decide (c ≠ 10 ∧ c < 1000)) = true := by decide +kernel
  intro z hz
  have h := List.all_eq_true.mp this z hz
  rw [Bool.and_eq_true] at h
  exact ⟨of_decide_eq_true h.1, fun c hc => of_decide_eq_true (List.all_eq_true.mp h.2 c hc)⟩
theorem ok_oddWords {f : Addr} {fd : FuncData} (F : C8.Def K mg "_law_odd_words" s_oddWords f fd) (b : Binds K fd ["_law_marks"] []) (T : Tx K w mg)  : C8.Cal P w K mg base 1 "_law_odd_words" sp_oddWords [] := by
  refine C8.cal0 F b .nil sc_oddWords (fun vs H Q E h => ?_) (fun cdv A outer s H vs Q E hr h => ?_)
  · obtain ⟨a, ms, rfl, _⟩ := h; rfl
  have hu := hu_of hr
  refine ⟨_, (pss_cons (ps_set (i := 1) sc_oddWords.nd rfl (Or.inl rfl) (pe_lst (pa_cons pe_str (pa_cons pe_str (pa_cons pe_str (pa_cons pe_str (pa_cons pe_str (pa_cons pe_str (pa_cons pe_str (pa_cons pe_str (pa_cons pe_str (pa_cons pe_str (pa_cons pe_str (pa_cons pe_str (pa_cons pe_str (pa_cons pe_str (pa_cons pe_str pa_nil)))))))))))))))))
      (pss_cons (ps_set (i := 1) sc_oddWords.nd rfl (Or.inl rfl) (pe_op op_cat (pv 1) (pe_lst (pa_cons pe_str (pa_cons pe_str (pa_cons pe_str (pa_cons pe_str (pa_cons pe_str (pa_cons pe_str (pa_cons pe_str (pa_cons pe_str (pa_cons pe_str (pa_cons pe_str pa_nil)))))))))))))
      (pss_one (ps_ret (pe_op op_cat (pv 1) (pv 0)))))), ?_⟩

  obtain ⟨a, ms, rfl, ha, hm, hg, q⟩ := h
  refine ⟨szB (by decide), fun A hA => ⟨_, rfl, szB (by decide), fun B hB => ?_⟩⟩
  refine ⟨A, B, (oddL.take 15).map V.str, (oddL.drop 15).map V.str, rfl, rfl, by rw [upd_ne (ne_of_none (upd_same (H := H) (a := A)) hB)]; exact upd_same, upd_same, szL (by decide), fun C hC => ?_⟩
  have s3 := same_new (same_new (same1 hA (.lst ((oddL.take 15).map V.str))) hB (.lst ((oddL.drop 15).map V.str))) hC (.lst (oddL.map V.str))
  refine ⟨_, rfl, _, rfl, C, a, oddL.map V.str, ms.map V.str, rfl, rfl, upd_same, s3 _ _ ha, szB (by rw [List.length_map]; show 25 + (ms.map V.str).length ≤ _; rw [List.length_map]; omega), fun D hD => ?_⟩
  refine q _ D (oddL ++ ms) (same_new s3 hD _) (by rw [List.map_append]; exact upd_same) ?_ ?_ fun z hz => ?_
  · rw [List.length_append]; show 1 ≤ 25 + ms.length; omega
  · rw [List.length_append]; show 25 + ms.length ≤ 100; omega
  · rcases List.mem_append.mp hz with hz | hz
    · exact odd_good z hz
    · exact hg z hz

end
end Vf

set_option maxRecDepth 100000
set_option maxHeartbeats 4000000
namespace Vf
open PySem PySem.Spec PyProof.Rows L2 SX
section
variable {P : Program} {w : World} {K : PySem.W.Frag} {mg : Str → Option Value} {base : Heap}
theorem ok_optionCanStand {f : Addr} {fd : FuncData} (F : C8.Def K mg "option_can_stand" s_optionCanStand f fd) (b : Binds K fd ["ahead", "word"] []) (T : Tx K w mg)  : C8.Cal P w K mg base 1 "option_can_stand" (sp_optionCanStand K) [] := by
  refine C8.cal0 F b .nil sc_optionCanStand (fun vs H Q E h => ?_) (fun cdv A outer s H vs Q E hr h => ?_)
  · obtain ⟨a, ws, w, rfl, _⟩ := h; rfl
  have hu := hu_of hr
  refine ⟨_, (pss_cons (ps_if (pt_cmpR op_notIn_seq (pv 1) (C8.pe_gc rfl (Classical.choose_spec T.g_OPTIONS).1) rfl)
      (pss_one (ps_ret pe_bl))
      pss_nil)
      (pss_cons (ps_set (i := 2) sc_optionCanStand.nd rfl (Or.inr rfl) (pe_slice sl_list (pv 0) (po_some pe_int) po_none))
      (pss_cons (ps_if (pt_val (pe_callB (cr_any rfl) (by rfl) T.z_any (by decide +kernel) (pa_cons (pe_lc (own := [("option", 3)]) (g := (gName 3)) (tt := tYes) rfl sc_optionCanStand.nd (pi_tup (pe_slice sl_tupA (C8.pe_gc rfl (Classical.choose_spec T.g_OPTIONS).1) (po_some (pe_bm PySem.F.plainAttrs_tuple PySem.F.slot_tuple_index PySem.F.type_tuple_index mt_tup_index (C8.pe_gc rfl (Classical.choose_spec T.g_OPTIONS).1) (pa_cons (pv 1) pa_nil))) po_none)) (blkOk_by (N := N_optionCanStand) (sc := C8.fnScope s_optionCanStand) (by decide +kernel)) (fun _ _ _ _ _ => pg_name (i := 3) sc_optionCanStand.nd rfl (Or.inl rfl)) (fun _ _ _ _ _ => pts_nil) (fun _ _ _ _ _ => (pe_cmpR (op_in_seqK (K := K) rfl) (pv 3) (pv 2) rfl))) pa_nil)))
      (pss_one (ps_ret pe_bl))
      pss_nil)
      (pss_cons (ps_if (pt_cmpR op_eq (pv 1) pe_str (nomark _))
      (pss_one (ps_ret pe_bl))
      pss_nil)
      (pss_cons (ps_if (pt_cmpR op_eq (pv 1) pe_str (nomark _))
      (pss_one (ps_ret (pe_and (pe_cmpR op_eq (pe_ix ix_list (pv 0) pe_int (fun _ _ => rfl)) pe_str (nomark _)) (pe_one (pe_cmpR op_notIn_seq (pe_ix ix_list (pv 0) pe_int (fun _ _ => rfl)) (pe_tup (pa_cons pe_str (pa_cons (pe_ix ix_list (pv 0) pe_int (fun _ _ => rfl)) pa_nil))) rfl)))))
      pss_nil)
      (pss_one (ps_ret (pe_and (pe_cmpR op_ne (pe_ix ix_list (pv 0) pe_int (fun _ _ => rfl)) pe_str (nomark _)) (pe_one (pe_not (pe_and (pe_cmpR op_eq (pv 1) pe_str (nomark _)) (pe_one (pe_cmpR op_in_seq pe_str (pv 2) rfl))))))))))))), ?_⟩

  obtain ⟨a, ws, w, rfl, ha, h4, hz, hf, n1, n2, hw, q⟩ := h
  rw [← optP_eq hf n1 n2] at q
  have gO := (Classical.choose_spec T.g_OPTIONS).2.1
  have gT := (Classical.choose_spec T.g_OPTIONS).2.2
  refine ⟨_, rfl, _, OPTS.map V.str, rfl, .inr (gO H), rfl, rfl, _, rfl, ?_⟩
  show if (!inV (.str w) (OPTS.map V.str)) = true then _ else _
  rw [inV_strs]
  by_cases m : w ∈ OPTS
  case neg =>
    have q0 := q H (same_refl H)
    unfold optP at q0
    rw [if_pos m] at q0
    exact ify (by rw [decide_eq_false m]; rfl) q0
  refine ifn (by rw [decide_eq_true m]; rfl) ?_
  refine ⟨_, rfl, 4, rfl, a, _, rfl, ha, fun G hG => ?_⟩
  have eG : cutV (ws.map V.str) (some 4) none = (ws.drop 4).map V.str := (cut_from _ 4).trans (strs_drop ws 4)
  rw [eG]
  obtain ⟨i1, i2⟩ := idx_first m
  have hG1 : (upd H G (.lst ((ws.drop 4).map V.str))) G = some (.lst ((ws.drop 4).map V.str)) := upd_same
  refine ⟨.inr (.inl ⟨rfl, gT⟩), _, rfl, _, OPTS, w, OPTS.idxOf w, rfl, rfl, gO _, i1, i2, _, rfl, ?_⟩
  dsimp only [tNoPart]
  refine slT_from (OPTS.idxOf w) (gO _) fun b H1 s1 hb => ⟨b, rfl, ⟨_, hb⟩, fun D hD => ?_⟩
  have hG2 := s1 _ _ hG1
  have s0 : Same H H1 := fun c o z => s1 _ _ (same1 hG _ c o z)
  rw [show ([V.str "nested", V.str "escape", V.str "doubled", V.str "line"] : List V) = OPTS.map V.str from rfl, strs_drop] at hb
  refine lc_tup (K := K) (a := b) (xs := (OPTS.drop (OPTS.idxOf w)).map V.str) (fun i H' => H' D = some (.lst ((((OPTS.drop (OPTS.idxOf w)).take i).map fun o => V.bl (decide (o ∈ ws.drop 4))))) ∧ Same H1 H') ⟨upd_same, same1 hD _⟩ (fun i H' _ ⟨_, z⟩ => sqT_same z hb) ?_ ?_
  · rintro i x H2 hx ⟨e1, e2⟩
    rw [List.getElem?_map] at hx
    obtain ⟨o, ho, rfl⟩ := Option.map_eq_some_iff.mp hx
    refine ⟨rfl, ?_⟩
    dsimp only [tYes]
    rw [if_pos rfl]
    refine ⟨_, rfl, _, rfl, G, _, rfl, .inl (SqL.of (e2 _ _ hG2)), rfl, flat_strs _, ?_⟩
    have hl : (OPTS.drop (OPTS.idxOf w)).length ≤ 4 := by rw [List.length_drop]; show 4 - _ ≤ 4; omega
    refine ⟨_, e1, szL (by rw [List.length_map, List.length_take]; omega), ?_, same_upd e2 hD _⟩
    rw [upd_same, List.take_add_one, ho]
    show some (HO.lst (_ ++ [V.bl (inV (.str o) ((ws.drop 4).map V.str))])) = _
    rw [inV_strs]
    simp
  · rintro H2 ⟨e1, e2⟩
    rw [List.length_map, List.take_length] at e1
    refine ⟨D, (OPTS.drop (OPTS.idxOf w)).map fun o => decide (o ∈ ws.drop 4), rfl, SqL.of (by rw [e1, List.map_map]; rfl), _, rfl, ?_⟩
    rw [List.any_map]
    have s2 : Same H H2 := fun c o z => e2 _ _ (s0 c o z)
    have q2 := q H2 s2
    have ha2 := sqL_same s2 ha
    unfold optP at q2
    rw [if_neg (by simpa using m)] at q2
    cases c : (OPTS.drop (OPTS.idxOf w)).any (fun o => decide (o ∈ ws.drop 4)) with
    | true =>
      rw [if_pos c] at q2
      exact ify c q2
    | false =>
      rw [if_neg (by rw [c]; exact Bool.false_ne_true)] at q2
      refine ifn c ?_
      refine ⟨_, rfl, rfl, _, rfl, ?_⟩
      rw [dS]
      by_cases c1 : w = "escape"
      · rw [if_pos c1] at q2
        exact ify (decide_eq_true c1) q2
      rw [if_neg c1] at q2
      refine ifn (decide_eq_false c1) ⟨_, rfl, rfl, _, rfl, ?_⟩
      rw [dS]
      by_cases c2 : w = "nested"
      · rw [if_pos c2] at q2
        refine ify (decide_eq_true c2) ?_
        refine ⟨_, rfl, a, _, 0, _, rfl, rfl, ha2, at_strs (i := 0) (by omega), rfl, _, rfl, ?_⟩
        rw [dS, ← getD_at (by omega : 0 < ws.length)]
        by_cases c3 : ws.getD 0 "" = "remark"
        · rw [decide_eq_true c3, Bool.true_and] at q2
          refine ify (decide_eq_true c3) ?_
          refine ⟨_, rfl, a, _, 3, _, rfl, rfl, ha2, at_strs (i := 3) (by omega), ?_⟩
          refine ⟨_, rfl, a, _, 1, _, rfl, rfl, ha2, at_strs (i := 1) (by omega), sz_2, fun t ht => ?_⟩
          refine ⟨t, [.str "line", .str ws[1]], rfl, .inr (SqT.of upd_same), rfl, rfl, ?_⟩
          show Q (.bl (!inV (.str ws[3]) (([("line" : Str), ws[1]] : List Str).map V.str))) _
          rw [inV_strs, ← getD_at (by omega : 3 < ws.length), ← getD_at (by omega : 1 < ws.length)]
          have q3 := q _ (same_new s2 ht (.tup [.str "line", .str (ws.getD 1 "")]))
          unfold optP at q3
          rw [if_neg (by simpa using m), if_neg (by rw [c]; exact Bool.false_ne_true), if_neg c1, if_pos c2, decide_eq_true c3, Bool.true_and] at q3
          exact q3
        · rw [decide_eq_false c3, Bool.false_and] at q2
          exact ifn (decide_eq_false c3) q2
      · rw [if_neg c2] at q2
        refine ifn (decide_eq_false c2) ?_
        refine ⟨_, rfl, a, _, 3, _, rfl, rfl, ha2, at_strs (i := 3) (by omega), rfl, _, rfl, ?_⟩
        have e3 : (!decide (V.str ws[3] = V.str "line")) = decide (ws.getD 3 "" ≠ "line") := by
          rw [dS, getD_at (by omega : 3 < ws.length)]
          by_cases z : ws[3] = "line" <;> simp [z]
        by_cases c3 : ws.getD 3 "" ≠ "line"
        · rw [decide_eq_true c3, Bool.true_and] at q2
          refine ify (e3.trans (decide_eq_true c3)) ?_
          refine ⟨_, rfl, rfl, _, rfl, ?_⟩
          rw [dS]
          by_cases c4 : w = "doubled"
          · rw [decide_eq_true c4, Bool.true_and] at q2
            refine ify (decide_eq_true c4) ⟨_, rfl, G, _, rfl, .inl (SqL.of (e2 _ _ hG2)), rfl, flat_strs _, _, rfl, ?_⟩
            rw [if_neg Bool.false_ne_true, inV_strs]
            exact q2
          · rw [decide_eq_false c4, Bool.false_and] at q2
            exact ifn (decide_eq_false c4) ⟨_, rfl, q2⟩
        · rw [decide_eq_false c3, Bool.false_and] at q2
          exact ifn (e3.trans (decide_eq_false c3)) q2

end
end Vf

set_option maxRecDepth 100000
set_option maxHeartbeats 4000000
namespace Vf
open PySem PySem.Spec PyProof.Rows L2 SX
section
variable {P : Program} {w : World} {K : PySem.W.Frag} {mg : Str → Option Value} {base : Heap}
theorem ok_optionStands {f : Addr} {fd : FuncData} (F : C8.Def K mg "_law_option_stands" s_optionStands f fd) (b : Binds K fd ["_law_before", "_law_word_here"] []) (T : Tx K w mg) (C_lawIsMark : C8.Cal P w K mg base 2 "_law_is_mark" sp_lawIsMark []) : C8.Cal P w K mg base 3 "_law_option_stands" (sp_optionStands K) [] := by
  refine C8.cal0 F b .nil sc_optionStands (fun vs H Q E h => ?_) (fun cdv A outer s H vs Q E hr h => ?_)
  · obtain ⟨a, ws, w, rfl, _⟩ := h; rfl
  have hu := hu_of hr
  refine ⟨_, (pss_cons (ps_par (i := 2) (j := 3) (by rfl) sc_optionStands.nd rfl rfl (by decide) rfl rfl (pa_cons (pe_slice sl_list (pv 0) (po_some pe_int) po_none) (pa_cons (pe_cmpR op_ne (pe_ix ix_list (pv 0) pe_int (fun _ _ => rfl)) pe_str (nomark _)) pa_nil)) (by rfl))
      (C8.pss_cut (ps_if (PW.pt (pw_and (pt_cmpR (op_neD hr.units) (pv 2) (pe_lst pa_nil) (nomark _)) (pw_and1 (pt_cmpR op_eq (pe_ix ix_list (pv 2) (pe_un un_neg pe_int) (fun _ _ => rfl)) pe_str (nomark _)))))
      (pss_one (ps_ret (pe_cmpR op_in_seq (pv 1) (pe_lst (pa_cons pe_str (pa_cons pe_str (pa_cons pe_str pa_nil)))) rfl)))
      pss_nil)
      (C8.pss_cut (ps_if (PW.pt (pw_and (pt_cmpR (op_neD hr.units) (pv 2) (pe_lst pa_nil) (nomark _)) (pw_and1 (pt_cmpR op_eq (pe_ix ix_list (pv 2) (pe_un un_neg pe_int) (fun _ _ => rfl)) pe_str (nomark _)))))
      (pss_one (ps_ret (pe_and (pe_cmpR op_eq (pe_callB call_len (by rfl) T.z_len PySem.boot_len (pa_cons (pv 1) pa_nil)) pe_int (nomark _)) (pe_one (C8.pe_c C_lawIsMark hr (by decide) rfl (pa_cons (pv 1) pa_nil))))))
      pss_nil)
      (pss_cons (ps_if (pt_cmpR op_in_seq pe_str (pv 2) rfl)
      (pss_one (ps_ret pe_bl))
      pss_nil)
      (pss_cons (ps_if (pt_cmpR op_eq (pv 1) pe_str (nomark _))
      (pss_one (ps_ret (pv 3)))
      pss_nil)
      (pss_cons (ps_if (pt_cmpR op_in_seq pe_str (pv 2) rfl)
      (pss_one (ps_ret pe_bl))
      pss_nil)
      (pss_cons (ps_if (pt_cmpR op_eq (pv 1) pe_str (nomark _))
      (pss_one (ps_ret (pe_and (pv 3) (pe_one (pe_cmpR op_notIn_seq pe_str (pv 2) rfl)))))
      pss_nil)
      (pss_cons (ps_if (pt_cmpR op_eq (pv 1) pe_str (nomark _))
      (pss_one (ps_ret (pe_cmpR op_notIn_seq pe_str (pv 2) rfl)))
      pss_nil)
      (pss_one (ps_ret (pe_and (pe_cmpR op_eq (pv 1) pe_str (nomark _)) (pe_and (pe_cmpR (op_eqD hr.units) (pv 2) (pe_lst pa_nil) (nomark _)) (pe_and (pe_cmpR op_eq (pe_ix ix_list (pv 0) pe_int (fun _ _ => rfl)) pe_str (nomark _)) (pe_and (pv 3) (pe_one (pe_cmpR op_ne (pe_ix ix_list (pv 0) pe_int (fun _ _ => rfl)) (pe_ix ix_list (pv 0) pe_int (fun _ _ => rfl)) (nomark _))))))))))))))))), ?_⟩

  obtain ⟨a, ws, w, rfl, ha, h4, hz, hch, hw, hwc, q⟩ := h
  have q0 := q H (same_refl H)
  refine ⟨_, rfl, 4, rfl, a, _, rfl, ha, fun G hG => ?_⟩
  have eG : cutV (ws.map V.str) (some 4) none = (ws.drop 4).map V.str := (cut_from _ 4).trans (strs_drop ws 4)
  rw [eG]
  have sG := same1 hG (.lst ((ws.drop 4).map V.str))
  have gG : (upd H G (.lst ((ws.drop 4).map V.str))) G = some (.lst ((ws.drop 4).map V.str)) := upd_same
  have ha1 := sqL_same sG ha
  generalize upd H G (.lst ((ws.drop 4).map V.str)) = H1 at sG gG ha1 ⊢
  refine ⟨_, rfl, a, _, 3, _, rfl, rfl, ha1, at_strs (i := 3) (by omega), rfl, _, _, rfl, ?_⟩
  have e3 : (!decide (V.str ws[3] = V.str "line")) = decide (ws.getD 3 "" ≠ "line") := by
    rw [dS, getD_at (by omega : 3 < ws.length)]
    by_cases z : ws[3] = "line" <;> simp [z]
  rw [e3]
  have chg : ∀ x ∈ ws.drop 4, ChOk x := fun x hx => hch x (List.mem_of_mem_drop hx)
  obtain ⟨y1, y2⟩ := strs_list chg
  have oB : optB ws w = if (ws.drop 4).getLast? = some ("nested" : Str) then decide (w ∈ (["2", "3", "4"] : List Str)) else if (ws.drop 4).getLast? = some ("escape" : Str) then decide (w.length = 1) && isMk w
    else if ("line" : Str) ∈ ws.drop 4 then false else if w = "line" then decide (ws.getD 3 "" ≠ "line") else if ("doubled" : Str) ∈ ws.drop 4 then false
    else if w = "doubled" then decide (ws.getD 3 "" ≠ "line") && decide (("nested" : Str) ∉ ws.drop 4) else if w = "escape" then decide (("escape" : Str) ∉ ws.drop 4)
    else decide (w = "nested") && (decide (ws.drop 4 = []) && (decide (ws.getD 0 "" = "remark") && (decide (ws.getD 3 "" ≠ "line") && decide (ws.getD 3 "" ≠ ws.getD 1 "")))) := rfl
  refine ⟨fun σ' H' => σ' = [some (.ref a), some (.str w), some (.ref G), some (.bl (decide (ws.getD 3 "" ≠ "line")))] ∧ Same H1 H' ∧ (ws.drop 4).getLast? ≠ some ("nested" : Str), ?_, ?_⟩
  · refine ⟨_, rfl, szB (by decide), fun N hN => ?_⟩
    have sN := same_new (same_refl H1) hN (.lst [])
    refine ⟨.list ((ws.drop 4).map PyData.str), .list [], .lst (SqL.of (sN _ _ gG)) (strs_dp _), .lst (SqL.of upd_same) .nil, y1, by decide +kernel, _, rfl, ?_⟩
    rw [eqv_nil]
    by_cases cg : ws.drop 4 = []
    · exact ifn (by rw [decide_eq_true cg]; rfl) ⟨rfl, sN, by rw [cg]; exact fun z => by cases z⟩
    refine ify (by rw [decide_eq_false cg]; rfl) ?_
    obtain ⟨u, gl, lst⟩ := at_lastS cg
    refine ⟨_, rfl, _, rfl, G, _, _, _, rfl, rfl, SqL.of (sN _ _ gG), lst, rfl, _, rfl, ?_⟩
    rw [dS]
    by_cases c4 : u = "nested"
    · refine ify (decide_eq_true c4) ?_
      have el : (ws.drop 4).getLast? = some ("nested" : Str) := by rw [gl, c4]
      refine ⟨_, rfl, sz_3, fun L hL => ?_⟩
      have sL := same_new sN hL (.lst [.str "2", .str "3", .str "4"])
      refine ⟨L, _, rfl, .inl (SqL.of upd_same), rfl, rfl, ?_⟩
      rw [if_neg Bool.false_ne_true, show ([V.str "2", V.str "3", V.str "4"] : List V) = (["2", "3", "4"] : List Str).map V.str from rfl, inV_strs]
      have q1 := q _ (fun c o z => sL _ _ (sG _ _ z))
      rw [oB, if_pos el] at q1
      exact q1
    · exact ifn (decide_eq_false c4) ⟨rfl, sN, fun z => c4 (Option.some.inj (gl.symm.trans z))⟩
  rintro σ' H2 ⟨rfl, s2, nn⟩
  refine ⟨fun σ' H' => σ' = [some (.ref a), some (.str w), some (.ref G), some (.bl (decide (ws.getD 3 "" ≠ "line")))] ∧ Same H1 H' ∧ (ws.drop 4).getLast? ≠ some ("escape" : Str), ?_, ?_⟩
  · refine ⟨_, rfl, szB (by decide), fun N hN => ?_⟩
    have sN := same_new s2 hN (.lst [])
    refine ⟨.list ((ws.drop 4).map PyData.str), .list [], .lst (SqL.of (sN _ _ gG)) (strs_dp _), .lst (SqL.of upd_same) .nil, y1, by decide +kernel, _, rfl, ?_⟩
    rw [eqv_nil]
    by_cases cg : ws.drop 4 = []
    · exact ifn (by rw [decide_eq_true cg]; rfl) ⟨rfl, sN, by rw [cg]; exact fun z => by cases z⟩
    refine ify (by rw [decide_eq_false cg]; rfl) ?_
    obtain ⟨u, gl, lst⟩ := at_lastS cg
    refine ⟨_, rfl, _, rfl, G, _, _, _, rfl, rfl, SqL.of (sN _ _ gG), lst, rfl, _, rfl, ?_⟩
    rw [dS]
    by_cases c4 : u = "escape"
    · refine ify (decide_eq_true c4) ?_
      have el : (ws.drop 4).getLast? = some ("escape" : Str) := by rw [gl, c4]
      refine ⟨_, rfl, _, w.length, rfl, ⟨szB (by omega), rfl⟩, rfl, _, rfl, ?_⟩
      rw [show V.int 1 = V.int ((1 : Nat) : Int) from rfl, dN]
      by_cases c5 : w.length = 1
      · refine ify (decide_eq_true c5) ⟨_, rfl, w, rfl, hw, hwc, fun H4 s4 => ?_⟩
        have q1 := q _ (fun c o z => s4 _ _ (sN _ _ (sG _ _ z)))
        rw [oB, if_neg nn, if_pos el, decide_eq_true c5, Bool.true_and] at q1
        exact q1
      · have q1 := q _ (fun c o z => sN _ _ (sG _ _ z))
        rw [oB, if_neg nn, if_pos el, decide_eq_false c5, Bool.false_and] at q1
        exact ifn (decide_eq_false c5) q1
    · exact ifn (decide_eq_false c4) ⟨rfl, sN, fun z => c4 (Option.some.inj (gl.symm.trans z))⟩
  rintro σ' H3 ⟨rfl, s3, ne⟩
  have q1 := q _ (fun c o z => s3 _ _ (sG _ _ z))
  rw [oB, if_neg nn, if_neg ne] at q1
  have gG3 := s3 _ _ gG
  have ha3 := sqL_same s3 ha1
  refine ⟨_, rfl, G, _, rfl, .inl (SqL.of gG3), rfl, flat_strs _, _, rfl, ?_⟩
  rw [if_neg Bool.false_ne_true, inV_strs]
  by_cases c1 : ("line" : Str) ∈ ws.drop 4
  · rw [if_pos c1] at q1; exact ify (decide_eq_true c1) q1
  rw [if_neg c1] at q1
  refine ifn (decide_eq_false c1) ⟨_, rfl, rfl, _, rfl, ?_⟩
  rw [dS]
  by_cases c2 : w = "line"
  · rw [if_pos c2] at q1; exact ify (decide_eq_true c2) ⟨_, rfl, q1⟩
  rw [if_neg c2] at q1
  refine ifn (decide_eq_false c2) ⟨_, rfl, G, _, rfl, .inl (SqL.of gG3), rfl, flat_strs _, _, rfl, ?_⟩
  rw [if_neg Bool.false_ne_true, inV_strs]
  by_cases c3 : ("doubled" : Str) ∈ ws.drop 4
  · rw [if_pos c3] at q1; exact ify (decide_eq_true c3) q1
  rw [if_neg c3] at q1
  refine ifn (decide_eq_false c3) ⟨_, rfl, rfl, _, rfl, ?_⟩
  rw [dS]
  by_cases c4 : w = "doubled"
  · rw [if_pos c4] at q1
    refine ify (decide_eq_true c4) ⟨_, rfl, _, rfl, ?_⟩
    cases hb : decide (ws.getD 3 "" ≠ "line") with
    | false => rw [hb, Bool.false_and] at q1; exact ifF q1
    | true =>
      rw [hb, Bool.true_and] at q1
      refine ifT ⟨_, rfl, G, _, rfl, .inl (SqL.of gG3), rfl, flat_strs _, ?_⟩
      rw [if_pos rfl, inV_strs]
      rw [show decide (("nested" : Str) ∉ ws.drop 4) = !decide (("nested" : Str) ∈ ws.drop 4) from decide_not] at q1
      exact q1
  rw [if_neg c4] at q1
  refine ifn (decide_eq_false c4) ⟨_, rfl, rfl, _, rfl, ?_⟩
  rw [dS]
  by_cases c5 : w = "escape"
  · rw [if_pos c5] at q1
    refine ify (decide_eq_true c5) ⟨_, rfl, G, _, rfl, .inl (SqL.of gG3), rfl, flat_strs _, ?_⟩
    rw [if_pos rfl, inV_strs]
    rw [show decide (("escape" : Str) ∉ ws.drop 4) = !decide (("escape" : Str) ∈ ws.drop 4) from decide_not] at q1
    exact q1
  rw [if_neg c5] at q1
  refine ifn (decide_eq_false c5) ⟨_, rfl, rfl, _, rfl, ?_⟩
  rw [dS]
  by_cases c6 : w = "nested"
  case neg => rw [decide_eq_false c6, Bool.false_and] at q1; exact ifn (decide_eq_false c6) q1
  refine ify (decide_eq_true c6) ⟨_, rfl, szB (by decide), fun N hN => ?_⟩
  have sN := same_new s3 hN (.lst [])
  have q2 := q _ (fun c o z => sN _ _ (sG _ _ z))
  rw [oB, if_neg nn, if_neg ne, if_neg c1, if_neg c2, if_neg c3, if_neg c4, if_neg c5, decide_eq_true c6, Bool.true_and] at q2
  have ha4 := sqL_same sN ha1
  refine ⟨.list ((ws.drop 4).map PyData.str), .list [], .lst (SqL.of (sN _ _ gG)) (strs_dp _), .lst (SqL.of upd_same) .nil, y1, by decide +kernel, _, rfl, ?_⟩
  rw [eqv_nil]
  by_cases c7 : ws.drop 4 = []
  case neg => rw [decide_eq_false c7, Bool.false_and] at q2; exact ifn (decide_eq_false c7) q2
  rw [decide_eq_true c7, Bool.true_and] at q2
  refine ify (decide_eq_true c7) ⟨_, rfl, a, _, 0, _, rfl, rfl, ha4, at_strs (i := 0) (by omega), rfl, _, rfl, ?_⟩
  rw [dS, ← getD_at (by omega : 0 < ws.length)]
  by_cases c8 : ws.getD 0 "" = "remark"
  case neg => rw [decide_eq_false c8, Bool.false_and] at q2; exact ifn (decide_eq_false c8) q2
  rw [decide_eq_true c8, Bool.true_and] at q2
  refine ify (decide_eq_true c8) ⟨_, rfl, _, rfl, ?_⟩
  cases hb : decide (ws.getD 3 "" ≠ "line") with
  | false => rw [hb, Bool.false_and] at q2; exact ifF q2
  | true =>
    rw [hb, Bool.true_and] at q2
    refine ifT ⟨_, rfl, a, _, 3, _, rfl, rfl, ha4, at_strs (i := 3) (by omega), _, rfl, a, _, 1, _, rfl, rfl, ha4, at_strs (i := 1) (by omega), rfl, ?_⟩
    have e4 : (!decide (V.str ws[3] = V.str ws[1])) = decide (ws.getD 3 "" ≠ ws.getD 1 "") := by
      rw [dS, getD_at (by omega : 3 < ws.length), getD_at (by omega : 1 < ws.length)]
      by_cases z : ws[3] = ws[1] <;> simp [z]
    rw [e4]
    exact q2

end
end Vf

set_option maxRecDepth 100000
set_option maxHeartbeats 4000000
namespace Vf
open PySem PySem.Spec PyProof.Rows L2 SX
section
variable {P : Program} {w : World} {K : PySem.W.Frag} {mg : Str → Option Value} {base : Heap}
theorem ok_pen {f : Addr} {fd : FuncData} (F : C8.Def K mg "_law_pen" s_pen f fd) (b : Binds K fd ["_law_script"] []) (T : Tx K w mg)  : C8.Cal P w K mg base 1 "_law_pen" (sp_pen K) [] := by
  refine C8.cal0 F b .nil sc_pen (fun vs H Q E h => ?_) (fun cdv A outer s H vs Q E hr h => ?_)
  · obtain ⟨a, ns, rfl, _⟩ := h; rfl
  have hu := hu_of hr
  refine ⟨_, (pss_cons (ps_set (i := 1) sc_pen.nd rfl (Or.inl rfl) pe_int)
      (pss_cons (ps_for PassesOwn.never rfl (pi_list (pv 0)) (pg_name (i := 2) sc_pen.nd rfl (Or.inl rfl))
      (pss_one (ps_set (i := 1) sc_pen.nd rfl (Or.inl rfl) (pe_op op_mod (pe_callTy call_int1 (by rfl) T.z_int (by decide +kernel) (pa_cons (pe_op op_add (pe_op op_mul (pv 1) pe_int) (pv 2)) pa_nil)) pe_int))))
      (pss_one (ps_ret (pe_disp (pps_cons pe_str (pe_callTy call_list_of (by rfl) T.z_list (by decide +kernel) (pa_cons (pv 0) pa_nil)) (pps_cons pe_str pe_int (pps_cons pe_str pe_int (pps_cons pe_str pe_int (pps_cons pe_str (pv 1) pps_nil))))) (by rfl) (by rfl) (fun z => by cases z) (by decide)))))), ?_⟩

  obtain ⟨a, ns, rfl, hS, hl, q⟩ := h
  refine ⟨_, rfl, a, rfl, ⟨_, hS⟩, for_list (K := K) (a := a) (xs := ns.map V.int) (fun i σ H2 => ∃ (f : Int) (v : Option V), σ = [some (.ref a), some (.int f), v] ∧ H2 = H ∧ 0 ≤ f ∧ f < 1000000007)
    ⟨0, none, rfl, rfl, by decide, by decide⟩ (fun i σ H2 _ ⟨_, _, _, e, _⟩ => by rw [e]; exact hS) ?_ ?_⟩
  · rintro i y σ H2 hi ⟨fo, v, rfl, rfl, h0, h1⟩
    obtain ⟨z, rfl⟩ : ∃ z, y = V.int z := by
      rw [List.getElem?_map] at hi
      cases e : ns[i]? with
      | none => rw [e] at hi; cases hi
      | some z => rw [e] at hi; exact ⟨z, (Option.some.inj hi).symm⟩
    refine ⟨_, rfl, _, _, rfl, rfl, .inl ⟨by omega, by omega⟩, _, rfl, _, _, rfl, rfl, .inl ⟨_, rfl, _, _, rfl, rfl, (by decide : (0 : Int) < 1000000007), ?_⟩⟩
    exact ⟨_, _, rfl, rfl, Int.emod_nonneg _ (by decide), Int.emod_lt_of_pos _ (by decide)⟩
  · rintro σ H2 ⟨fo, v, rfl, rfl, h0, h1⟩
    intro p np
    refine ⟨_, rfl, a, _, rfl, .inl ((Ks.new1 np _).seq hS), fun c nc => ?_⟩
    have hcp : c ≠ p := fun e => by rw [e, upd_same] at nc; cases nc
    refine ⟨_, rfl, by rw [upd_ne hcp.symm, upd_same], [(.inr "cells", .ref c), (.inr "at", .int 0), (.inr "digits", .int 0), (.inr "count", .int 0), (.inr "fold", .int fo)], rfl, (by show 5 ≤ 15; decide), ?_⟩
    have nc0 : H2 c = none := by rw [upd_ne hcp] at nc; exact nc
    refine q _ p c (((Ks.new1 np _).upd nc0 _).upd np _) ⟨ns, 0, 0, 0, fo, Eq.trans upd_same rfl, ?_, hl, by decide, by decide, by decide, by decide, h0, by omega⟩
    rw [upd_ne hcp, upd_same]

end
end Vf

set_option maxRecDepth 100000
set_option maxHeartbeats 4000000
namespace Vf
open PySem PySem.Spec PyProof.Rows L2 SX
section
variable {P : Program} {w : World} {K : PySem.W.Frag} {mg : Str → Option Value} {base : Heap}
theorem ok_pick {f : Addr} {fd : FuncData} (F : C8.Def K mg "_law_pick" s_pick f fd) (b : Binds K fd ["_law_pen_here", "_law_some_here"] []) (T : Tx K w mg) (C_draw : C8.Cal P w K mg base 1 "_law_draw" sp_draw []) : C8.Cal P w K mg base 2 "_law_pick" sp_pick [] := by
  refine C8.cal0 F b .nil sc_pick (fun vs H Q E h => ?_) (fun cdv A outer s H vs Q E hr h => ?_)
  · obtain ⟨p, c, m, x, rfl, _⟩ := h; rfl
  have hu := hu_of hr
  refine ⟨_, (pss_one (ps_ret (pe_ix ix_seq (pv 1) (C8.pe_c C_draw hr (by decide) rfl (pa_cons (pv 0) (pa_cons (pe_callB call_len (by rfl) T.z_len PySem.boot_len (pa_cons (pv 1) pa_nil)) pa_nil))) (fun _ _ => rfl)))), ?_⟩

  obtain ⟨p, c, m, x, rfl, hp, hm, q⟩ := h
  rcases q with ⟨l, rfl, l1, l2, q⟩ | ⟨a, xs, rfl, ha, l1, l2, q⟩
  · refine ⟨_, rfl, _, rfl, _, rfl, _, l.length, rfl, ⟨by rw [S_len]; exact szB l2, by rw [S_len]⟩, ?_⟩
    refine ⟨p, c, m, l.length, rfl, hp, hm, l1, by omega, fun H' r k1 k2 hr' => ?_⟩
    refine .inr (.inr ⟨S l, _, l[r], rfl, rfl, by rw [S_len]; exact szB l2, atI_nat (List.getElem?_eq_getElem hr'), ?_⟩)
    exact q H' _ k1 k2 (List.getElem_mem _)
  · refine ⟨_, rfl, _, rfl, _, rfl, _, xs.length, rfl, .inl ⟨_, SqL.of ha, rfl⟩, ?_⟩
    refine ⟨p, c, m, xs.length, rfl, hp, hm, l1, by omega, fun H' r k1 k2 hr' => ?_⟩
    refine .inl ⟨a, xs, _, xs[r], rfl, rfl, SqL.of (k1.lst ha), atI_nat (List.getElem?_eq_getElem hr'), ?_⟩
    exact q H' _ k1 k2 (List.getElem_mem _)

end
end Vf

set_option maxRecDepth 100000
set_option maxHeartbeats 4000000
namespace Vf
open PySem PySem.Spec PyProof.Rows L2 SX
section
variable {P : Program} {w : World} {K : PySem.W.Frag} {mg : Str → Option Value} {base : Heap}
theorem ok_pieceMarks {f : Addr} {fd : FuncData} {CR CD CG : Addr} (F : C8.Def K mg "piece_marks" s_pieceMarks f fd) (b : Binds K fd ["rule", "number", "depth"] []) (T : Tx K w mg) (A0 : Ca K CR CD CG) : C8.Cal P w K mg base 1 "piece_marks" (sp_pieceMarks K CR) [] := by
  refine C8.cal0 F b .nil sc_pieceMarks (fun vs H Q E h => ?_) (fun cdv A outer s H vs Q E hr h => ?_)
  · obtain ⟨v, n, d, rfl, _⟩ := h; rfl
  have hu := hu_of hr
  refine ⟨_, (pss_cons (ps_set (i := 3) sc_pieceMarks.nd rfl (Or.inl rfl) (pe_lst pa_nil))
      (C8.pss_cut (ps_if (pt_truth (pe_fld (pv 0) rfl) (by intro _; rfl))
      (pss_one (ps_expr (pe_bm PySem.F.plainAttrs_list PySem.F.slot_list_append PySem.F.type_list_append mt_append (pv 3) (pa_cons (pe_tup (pa_cons (pe_fld (pv 0) rfl) (pa_cons (pe_ifExp (pt_cmpR op_gt (pv 2) pe_int (nomark _)) (pe_tup (pa_cons (pv 1) (pa_cons (pe_op op_sub (pv 2) pe_int) (pa_cons pe_int pa_nil)))) (C8.pe_gc rfl (Classical.choose_spec T.g_CODE).1)) pa_nil))) pa_nil))))
      pss_nil)
      (C8.pss_cut (ps_if (pt_cmpR op_lt (pv 2) (pe_fld (pv 0) rfl) (nomark _))
      (pss_one (ps_expr (pe_bm PySem.F.plainAttrs_list PySem.F.slot_list_append PySem.F.type_list_append mt_append (pv 3) (pa_cons (pe_tup (pa_cons (pe_fld (pv 0) rfl) (pa_cons (pe_tup (pa_cons (pv 1) (pa_cons (pe_op op_add (pv 2) pe_int) (pa_cons pe_int pa_nil)))) pa_nil))) pa_nil))))
      pss_nil)
      (C8.pss_cut (ps_if (pt_val (pe_fld (pv 0) rfl))
      (pss_one (ps_expr (pe_bm PySem.F.plainAttrs_list PySem.F.slot_list_append PySem.F.type_list_append mt_append (pv 3) (pa_cons (pe_tup (pa_cons (pe_op op_rep_str (pe_fld (pv 0) rfl) pe_int) (pa_cons (pe_tup (pa_cons (pv 1) (pa_cons (pv 2) (pa_cons pe_int pa_nil)))) pa_nil))) pa_nil))))
      pss_nil)
      (pss_one (ps_ret (pv 3))))))), ?_⟩

  obtain ⟨v, n, d, rfl, ⟨a, dx, k, op, cx, nd, es, db, ln, rfl, ha, h1, h2, h3, h4⟩, q⟩ := h
  have cl := A0.iR.cl
  refine ⟨szB (by decide), fun L hL => ?_⟩
  have nLa : a ≠ L := ne_of_none ha hL
  have step : ∀ {t : TS} {u : TS} {D : Ends} {σ : L2.St} {H1 : Hp} {j : Nat}, t { D with nx := fun σ' H' => ∃ ms : List V, σ' = [some (.ref a), some (.int (n : Int)), some (.int (d : Int)), some (.ref L)] ∧ PInv K H L j ms H' } σ H1 → (∀ (ms : List V) (H' : Hp), PInv K H L j ms H' → u D [some (.ref a), some (.int (n : Int)), some (.int (d : Int)), some (.ref L)] H') → C8.tCut t u D σ H1 := fun h1 h2 => ⟨_, h1, fun σ' H' ⟨m, e1, e2⟩ => by rw [e1]; exact h2 m H' e2⟩
  have i0 : PInv K H L 0 [] (upd H L (.lst [])) := ⟨upd_same, same1 hL _, Nat.le_refl _, fun _ z => nomatch z⟩
  refine step (j := 1) ?_ fun ms H1 i1 => step (j := 2) ?_ fun ms2 H2 i2 => step (j := 3) ?_ fun ms3 H3 i3 => ?_
  · have ha0 := i0.2.1 _ _ ha
    refine ⟨_, rfl, a, CR, dx, _, _, rfl, ha0, cl, A0.r3, rfl, _, ⟨szB (by omega), rfl⟩, ?_⟩
    cases ((cx.length : Int) != 0) with
    | false => exact ifF ⟨_, rfl, pinv_up i0⟩
    | true =>
      refine ifT ⟨_, rfl, .inl ⟨rfl, _, SqL.of i0.1⟩, _, rfl, a, CR, dx, _, _, rfl, ha0, cl, A0.r3, rfl, _, rfl, _, _, rfl, rfl, _, rfl, ?_⟩
      cases decide ((1 : Int) < (d : Int)) with
      | true =>
        refine ifT ⟨_, rfl, _, rfl, _, _, rfl, rfl, sz_3, fun t1 ht1 => ⟨sz_2, fun t ht => ?_⟩⟩
        have s1 := same1 ht1 (.tup [.int (n : Int), .int ((d : Int) - 1), .int 0])
        have s2 := same_new s1 ht (.tup [.str cx, .ref t1])
        exact ⟨L, _, _, rfl, rfl, s2 _ _ i0.1, szL (by decide), _, rfl, pinv_push hL i0 s2 upd_same (by omega)⟩
      | false =>
        refine ifF ⟨sz_2, fun t ht => ?_⟩
        have s2 := same1 ht (.tup [.str cx, .ref (Classical.choose T.g_CODE)])
        exact ⟨L, _, _, rfl, rfl, s2 _ _ i0.1, szL (by decide), _, rfl, pinv_push hL i0 s2 upd_same (by omega)⟩
  · have ha0 := i1.2.1 _ _ ha
    refine ⟨_, rfl, _, rfl, a, CR, dx, _, _, rfl, ha0, cl, A0.r4, rfl, _, _, rfl, rfl, _, rfl, ?_⟩
    cases decide ((d : Int) < (nd : Int)) with
    | false => exact ifF ⟨_, rfl, pinv_up i1⟩
    | true =>
      refine ifT ⟨_, rfl, .inl ⟨rfl, _, SqL.of i1.1⟩, _, rfl, a, CR, dx, _, _, rfl, ha0, cl, A0.r2, rfl, _, rfl, _, rfl, _, _, rfl, rfl, sz_3, fun t1 ht1 => ⟨sz_2, fun t ht => ?_⟩⟩
      have s1 := same1 ht1 (.tup [.int (n : Int), .int ((d : Int) + 1), .int 0])
      have s2 := same_new s1 ht (.tup [.str op, .ref t1])
      exact ⟨L, _, _, rfl, rfl, s2 _ _ i1.1, szL (by have := i1.2.2.1; omega), _, rfl, pinv_push hL i1 s2 upd_same (by omega)⟩
  · have ha0 := i2.2.1 _ _ ha
    refine ⟨_, rfl, a, CR, dx, _, _, rfl, ha0, cl, A0.r6, rfl, _, rfl, ?_⟩
    cases db with
    | false => exact ifF ⟨_, rfl, pinv_up i2⟩
    | true =>
      refine ifT ⟨_, rfl, .inl ⟨rfl, _, SqL.of i2.1⟩, _, rfl, a, CR, dx, _, _, rfl, ha0, cl, A0.r3, rfl, TL.tl cx, 2, congrArg V.str (S_tl cx).symm, rfl, by decide, by rw [← TL.len_tl]; omega, ?_⟩
      refine ⟨_, rfl, _, rfl, sz_3, fun t1 ht1 => ⟨sz_2, fun t ht => ?_⟩⟩
      have s1 := same1 ht1 (.tup [.int (n : Int), .int (d : Int), .int 0])
      have s2 := same_new s1 ht (.tup [.str (S (repL 2 (TL.tl cx))), .ref t1])
      exact ⟨L, _, _, rfl, rfl, s2 _ _ i2.1, szL (by have := i2.2.2.1; omega), _, rfl, pinv_push hL i2 s2 upd_same (by rw [S_len, rep_len, ← TL.len_tl]; omega)⟩
  · exact ⟨_, rfl, q H3 L ms3 i3.2.1 hL i3.1 i3.2.2.1 i3.2.2.2⟩

end
end Vf

set_option maxRecDepth 100000
set_option maxHeartbeats 4000000
namespace Vf
open PySem PySem.Spec PyProof.Rows L2 SX
section
variable {P : Program} {w : World} {K : PySem.W.Frag} {mg : Str → Option Value} {base : Heap}
theorem ok_readRules {f : Addr} {fd : FuncData} {CR CD CG CT CW CN : Addr} (F : C8.Def K mg "read_rules" s_readRules f fd) (b : Binds K fd ["text"] []) (T : Tx K w mg) (ES : Es P w K mg base CT CW CN) (M_Rule : C8.Mak P w K mg base 1 "Rule" CR (sp_Rule_init K CR) []) (A0 : Ca K CR CD CG) (C_wrongColumn : C8.Cal P w K mg base 3 "wrong_column" (sp_wrongColumn K) []) : CalX P w K mg base 4 "read_rules" (sp_readRules CR CT) := by
  refine calX F b sc_readRules (fun vs H Q E h => ?_) (fun cdv A outer s H vs Q E hr h => ?_)
  · obtain ⟨t, rfl, _⟩ := h; rfl
  have hu := hu_of hr
  refine ⟨_, (pss_cons (ps_set (i := 1) sc_readRules.nd rfl (Or.inl rfl) (pe_lst pa_nil))
      (pss_cons (ps_set (i := 2) sc_readRules.nd rfl (Or.inl rfl) (pe_lst pa_nil))
      (pss_cons (ps_for (passes_of rfl) rfl (pi_enumK (by rfl) T.z_enumerate (pa_cons (pe_ifExp (pt_truth (pv 0) (by intro _; rfl)) (pe_split (pv 0) pe_str) (pe_lst pa_nil)) pa_nil) pe_int) (pg_tup rfl (pgs_cons (pg_name (i := 3) sc_readRules.nd rfl (Or.inl rfl)) (pgs_cons (pg_name (i := 4) sc_readRules.nd rfl (Or.inl rfl)) pgs_nil)))
      (pss_cons (ps_set (i := 5) sc_readRules.nd rfl (Or.inl rfl) (pe_ifExp (pt_cmpR op_gt (pv 3) (C8.pe_gc rfl T.g_MOST_RULES) (nomark _)) pe_int (C8.pe_c C_wrongColumn hr (by decide) rfl (pa_cons (pv 4) (pa_cons (pv 2) pa_nil)))))
      (pss_cons (ps_if (pt_cmpR op_notN (pv 5) pe_non (nomark _))
      (pss_one (ps_rx ES.r_BadText hr (by decide) rfl rfl (takes_of rfl rfl rfl rfl) (pa_cons (pv 3) (pa_cons (pv 5) pa_nil))))
      pss_nil)
      (pss_cons (ps_expr (pe_bm PySem.F.plainAttrs_list PySem.F.slot_list_append PySem.F.type_list_append mt_append (pv 1) (pa_cons (C8.pe_mk M_Rule hr (by decide) rfl (pa_cons (pe_split (pv 4) pe_str) pa_nil)) pa_nil)))
      (pss_one (ps_expr (pe_bm PySem.F.plainAttrs_list PySem.F.slot_list_append PySem.F.type_list_append mt_append (pv 2) (pa_cons (pe_fld (pe_ix ix_list (pv 1) (pe_un un_neg pe_int) (fun _ _ => rfl)) rfl) pa_nil))))))))
      (pss_one (ps_ret (pe_callTy call_tuple_of (by rfl) T.z_tuple (by decide +kernel) (pa_cons (pv 1) pa_nil))))))), ?_⟩

  obtain ⟨t, rfl, ht, lo, qo, qe⟩ := h
  refine ⟨szB (by decide), fun R hR => ⟨szB (by decide), fun O hO => ?_⟩⟩
  refine ⟨_, rfl, _, ⟨szB (by omega), rfl⟩, ?_⟩
  rw [str_ne0]
  have sR := same1 hR (.lst [])
  have sO := same_new sR hO (.lst [])
  have nRO : R ≠ O := ne_of_none upd_same hO
  have hR0 : (upd (upd H R (.lst [])) O (.lst [])) R = some (.lst []) := by rw [upd_ne nRO]; exact upd_same
  by_cases c0 : t ≠ ""
  case' pos =>
    refine ify (decide_eq_true c0) ⟨_, rfl, ⟨_, rfl⟩, _, _, rfl, rfl, by decide +kernel, szB (by omega), fun L hL => ?_⟩
    have eL : (Txt.split t (Str.ofString "\n")).map V.str = (lnsOf t).map V.str := by unfold lnsOf; rw [if_neg c0]
    have hLs : (upd (upd (upd H R (.lst [])) O (.lst [])) L (.lst ((Txt.split t (Str.ofString "\n")).map V.str))) L = some (.lst ((lnsOf t).map V.str)) := by rw [upd_same, eL]
    have hR1 : (upd (upd (upd H R (.lst [])) O (.lst [])) L (.lst ((Txt.split t (Str.ofString "\n")).map V.str))) R = some (.lst []) := by rw [upd_ne (ne_of_none hR0 hL)]; exact hR0
    have hO1 : (upd (upd (upd H R (.lst [])) O (.lst [])) L (.lst ((Txt.split t (Str.ofString "\n")).map V.str))) O = some (.lst []) := by rw [upd_ne (ne_of_none upd_same hL)]; exact upd_same
    have s1 := same_new sO hL (.lst ((Txt.split t (Str.ofString "\n")).map V.str))
    have nLR : L ≠ R := (ne_of_none hR0 hL).symm
    have nLO : L ≠ O := (ne_of_none (show (upd (upd H R (.lst [])) O (.lst [])) O = some (.lst []) from upd_same) hL).symm
    have fO : H O = none := sR.free hO
    generalize upd (upd (upd H R (.lst [])) O (.lst [])) L (.lst ((Txt.split t (Str.ofString "\n")).map V.str)) = H1 at hLs hR1 hO1 s1 ⊢
  case' neg =>
    refine ifn (decide_eq_false c0) ⟨szB (by decide), fun L hL => ?_⟩
    have eL : ([] : List V) = (lnsOf t).map V.str := by unfold lnsOf; rw [if_pos (Decidable.not_not.mp c0)]; rfl
    have hLs : (upd (upd (upd H R (.lst [])) O (.lst [])) L (.lst ([]))) L = some (.lst ((lnsOf t).map V.str)) := by rw [upd_same]; exact congrArg (fun z => some (HO.lst z)) eL
    have hR1 : (upd (upd (upd H R (.lst [])) O (.lst [])) L (.lst ([]))) R = some (.lst []) := by rw [upd_ne (ne_of_none hR0 hL)]; exact hR0
    have hO1 : (upd (upd (upd H R (.lst [])) O (.lst [])) L (.lst ([]))) O = some (.lst []) := by rw [upd_ne (ne_of_none upd_same hL)]; exact upd_same
    have s1 := same_new sO hL (.lst ([]))
    have nLR : L ≠ R := (ne_of_none hR0 hL).symm
    have nLO : L ≠ O := (ne_of_none (show (upd (upd H R (.lst [])) O (.lst [])) O = some (.lst []) from upd_same) hL).symm
    have fO : H O = none := sR.free hO
    generalize upd (upd (upd H R (.lst [])) O (.lst [])) L (.lst ([])) = H1 at hLs hR1 hO1 s1 ⊢
  all_goals
    obtain ⟨l1, l2⟩ := lo
    refine ⟨L, _, rfl, SqL.of hLs, 1, rfl, by decide, by decide, SqL.of hLs, ?_⟩
    refine for_it walk_enumK (fun i σ H' => ∃ (rs : List V) (v3 v4 v5 : Option V), σ = [some (.str t), some (.ref R), some (.ref O), v3, v4, v5] ∧ Same H H' ∧ H' L = some (.lst ((lnsOf t).map V.str)) ∧ H' R = some (.lst rs) ∧ H' O = some (.lst ((((lnsOf t).take i).map opn).map V.str)) ∧ rs.length = i ∧ (∀ r ∈ rs, RuG CR H' r) ∧ fw (lnsOf t) = fwGo i ((lnsOf t).drop i) (((lnsOf t).take i).map opn) ∧ i ≤ 6)
      ⟨[], none, none, none, rfl, s1, hLs, hR1, hO1, rfl, (fun _ z => nomatch z), rfl, by decide⟩ (fun i σ H' _ ⟨_, _, _, _, _, _, z, _⟩ => SqL.of z) ?_ ?_
    · rintro i x σ H2 H3 hi ⟨rs, v3, v4, v5, rfl, s2, h2L, h2R, h2O, hrl, hru, efw, hi6⟩ ⟨T', x', y', rfl, hT, rfl, ex, ey⟩
      cases ex
      dsimp only at ey
      rw [List.getElem?_map] at ey
      obtain ⟨l, hl, rfl⟩ := Option.map_eq_some_iff.mp ey
      have gl := l2 l (List.mem_of_getElem? hl)
      have ed : (lnsOf t).drop i = l :: (lnsOf t).drop (i + 1) := by
        obtain ⟨hlt, eg⟩ := List.getElem?_eq_some_iff.mp hl
        rw [← eg]; exact List.drop_eq_getElem_cons hlt
      have et : ((lnsOf t).take (i + 1)).map opn = ((lnsOf t).take i).map opn ++ [opn l] := by rw [List.take_add_one, hl, List.map_append]; rfl
      rw [ed, fwGo_cons] at efw
      have s3 := same_new s2 hT (.tup [.int ((1 : Int) + (i : Int)), .str l])
      have s23 := same1 hT (.tup [.int ((1 : Int) + (i : Int)), .str l])
      have h3L := s23 _ _ h2L
      have h3R := s23 _ _ h2R
      have h3O := s23 _ _ h2O
      have hru3 : ∀ r ∈ rs, RuG CR (upd H2 T' (.tup [.int ((1 : Int) + (i : Int)), .str l])) r := fun r hr => (hru r hr).same s23
      refine ⟨T', _, rfl, SqT.of upd_same, rfl, _, _, rfl, _, _, rfl, rfl, ?_⟩
      generalize upd H2 T' (.tup [.int ((1 : Int) + (i : Int)), .str l]) = H3 at s3 s23 h3L h3R h3O hru3 ⊢
      refine ⟨_, rfl, _, _, rfl, rfl, _, rfl, ?_⟩
      have e6 : decide ((6 : Int) < (1 : Int) + (i : Int)) = decide (6 ≤ i) := decide_eq_decide.mpr (by omega)
      rw [e6]
      by_cases c6 : 6 ≤ i
      · rw [if_pos c6] at efw
        refine ify (decide_eq_true c6) ⟨_, rfl, rfl, _, rfl, ?_⟩
        refine ifT ⟨_, rfl, _, rfl, rfl, fun d H4 hd hx s4 => ?_⟩
        refine qe _ efw d H4 (fun b u z => s4 _ _ (s3 b u z)) ?_
        rw [hx]
        show some (HO.xd [("column", .int 1), ("line", .int ((1 : Int) + (i : Int)))]) = _
        rw [show ((1 : Int) + (i : Int)) = ((i + 1 : Nat) : Int) by omega]
        rfl
      rw [if_neg c6] at efw
      refine ifn (decide_eq_false c6) ⟨_, rfl, _, rfl, O, _, l, rfl, SqL.of h3O, gl.1, fun H4 s4 => ?_⟩
      have h4L := s4 _ _ h3L
      have h4R := s4 _ _ h3R
      have h4O := s4 _ _ h3O
      cases ec : wcol l (((lnsOf t).take i).map opn) with
      | some c =>
        rw [ec] at efw
        refine ⟨_, rfl, rfl, _, rfl, ?_⟩
        refine ifT ⟨_, rfl, _, rfl, rfl, fun d H5 hd hx s5 => ?_⟩
        refine qe _ efw d H5 (fun b u z => s5 _ _ (s4 _ _ (s3 b u z))) ?_
        rw [hx]
        show some (HO.xd [("column", .int (c : Int)), ("line", .int ((1 : Int) + (i : Int)))]) = _
        rw [show ((1 : Int) + (i : Int)) = ((i + 1 : Nat) : Int) by omega]
      | none =>
        rw [ec] at efw
        dsimp only at efw
        have cv := wcol_cv ec
        obtain ⟨b1, b2, b3⟩ := spS_bnd l
        refine ⟨_, rfl, rfl, _, rfl, ?_⟩
        refine ifF ?_
        have sH4 : Same H H4 := fun b u z => s4 _ _ (s3 b u z)
        refine ⟨_, rfl, .inl ⟨rfl, _, SqL.of h4R⟩, _, rfl, ⟨_, rfl⟩, _, _, rfl, rfl, by decide +kernel, szB (by have := gl.1; omega), fun W hW => ?_⟩
        intro a dx na ndx ne
        have hz1 := gl.1
        refine ⟨a, dx, W, spS l, _, rfl, upd_same, ?_, cv, by omega, fun k cl nd es db ln z1 z2 z3 H6 k6 ha6 => ⟨rfl, ?_⟩⟩
        · have : (upd H4 W (.lst ((spS l).map V.str))) W = some (.lst ((spS l).map V.str)) := upd_same
          refine SqL.of ?_
          rw [upd_ne (ne_of_none this na), upd_ne (ne_of_none this ndx)]
          exact this
        have nfa : ∀ b u, H4 b = some u → H6 b = some u := fun b u z => by
          have z1 := same1 hW (.lst ((spS l).map V.str)) b u z
          have n1 := ne_of_none z1 na
          have n2 := ne_of_none z1 ndx
          exact k6 b u n1 (by rw [upd_ne n1, upd_ne n2]; exact z1)
        have h6L := nfa _ _ h4L
        have h6R := nfa _ _ h4R
        have h6O := nfa _ _ h4O
        have sH6 : Same H H6 := fun b u z => nfa b u (sH4 b u z)
        refine ⟨R, rs, _, rfl, rfl, h6R, szL (by omega), ?_⟩
        have h7R : (upd H6 R (.lst (rs ++ [.ref a]))) R = some (.lst (rs ++ [.ref a])) := upd_same
        have h7O : (upd H6 R (.lst (rs ++ [.ref a]))) O = some (.lst ((((lnsOf t).take i).map opn).map V.str)) := by rw [upd_ne nRO.symm]; exact h6O
        have h7a : (upd H6 R (.lst (rs ++ [.ref a]))) a = some (.ins CR dx (ruF k ((spS l).getD 1 "") cl nd es db ln)) := by rw [upd_ne (ne_of ha6 h6R fun z => nomatch z)]; exact ha6
        refine ⟨_, rfl, .inl ⟨rfl, _, SqL.of h7O⟩, _, rfl, _, rfl, R, _, _, .ref a, rfl, rfl, SqL.of h7R, atI_last _ _, a, CR, dx, _, .str (opn l), rfl, h7a, A0.iR.cl, A0.r2, rfl, O, _, _, rfl, rfl, h7O, szL (by rw [List.length_map, List.length_map, List.length_take]; omega), ?_⟩
        have sH7 : Same H (upd (upd H6 R (.lst (rs ++ [.ref a]))) O (.lst ((((lnsOf t).take i).map opn).map V.str ++ [.str (opn l)]))) := fun b u z => by
          rw [upd_ne (ne_of_none z fO), upd_ne (ne_of_none z hR)]
          exact sH6 b u z
        refine ⟨rs ++ [.ref a], _, _, _, rfl, sH7, by rw [upd_ne nLO, upd_ne nLR]; exact h6L, by rw [upd_ne nRO]; exact h7R, by rw [upd_same, et, List.map_append]; rfl, by rw [List.length_append, hrl]; rfl, fun r hr => ?_, by rw [et]; exact efw, by omega⟩
        have grow : ∀ r, RuG CR H6 r → RuG CR (upd (upd H6 R (.lst (rs ++ [.ref a]))) O (.lst ((((lnsOf t).take i).map opn).map V.str ++ [.str (opn l)]))) r := fun r g => (g.updL h6R).updL h7O
        rcases List.mem_append.mp hr with hr | hr
        · exact grow r ((hru3 r hr).ext fun b u z _ => nfa b u (s4 b u z))
        · rw [List.mem_singleton.mp hr]
          refine grow _ ⟨a, dx, k, _, cl, nd, es, db, ln, rfl, ha6, ?_, z1, z2, z3⟩
          have hg : (spS l).getD 1 "" = (spS l)[1]'(by have := cv.2.1; omega) := getD_at _
          rw [hg]
          exact (mk_len (vd_1 cv.1 (by have := cv.2.1; omega))).2
    · rintro σ H2 ⟨rs, v3, v4, v5, rfl, s2, h2L, h2R, h2O, hrl, hru, efw, hi6⟩
      rw [List.length_map] at efw hrl hi6
      rw [List.drop_length] at efw
      refine ⟨_, rfl, R, rs, rfl, .inl ⟨SqL.of h2R, fun l hl => ?_⟩⟩
      exact qo efw _ l rs (same_new s2 hl _) upd_same (by omega) fun r hr => (hru r hr).same (same1 hl _)

end
end Vf

set_option maxRecDepth 100000
set_option maxHeartbeats 4000000
namespace Vf
open PySem PySem.Spec PyProof.Rows L2 SX
section
variable {P : Program} {w : World} {K : PySem.W.Frag} {mg : Str → Option Value} {base : Heap}
theorem ok_Reader_init {f : Addr} {fd : FuncData} {q : Str} {CR CD CG P0 : Addr} (M : Mk K CD f) (gc : mg "Reader" = some (.ref CD)) (F : C8.Fun K "__init__" q s_Reader_init f fd) (b : Binds K fd ["self", "rules"] []) (T : Tx K w mg) (A0 : Ca K CR CD CG) (C_longestFirst : C8.Cal P w K mg base 4 "longest_first" (sp_longestFirst K P0) []) (C_pieceMarks : C8.Cal P w K mg base 1 "piece_marks" (sp_pieceMarks K CR) []) : C8.Mak P w K mg base 5 "Reader" CD (sp_Reader_init K CR CD P0) [] := by
  refine C8.mak0 M gc F b .nil sc_Reader_init (fun vs H Q E h => ?_) (fun cdv A outer s H vs Q E hr h => ?_)
  · obtain ⟨a, dx, b, rs, rfl, _⟩ := h; rfl
  have hu := hu_of hr
  refine ⟨_, (pss_cons (ps_fld (pv 0) (pv 1) rfl)
      (pss_cons (ps_set (i := 2) sc_Reader_init.nd rfl (Or.inl rfl) (pe_dispXK (P := P) (w := w) (K := K) rfl rfl rfl (Nat.lt_of_succ_lt hu) (C8.pe_gc rfl (Classical.choose_spec T.g_CODE).1) (C8.pe_c C_longestFirst hr (by decide) rfl (pa_cons (pe_lc (own := [("number", 3), ("rule", 4)]) (g := (gTup K 2 (gCons (gName 3) (gCons (gName 4) gNil)))) (tt := tYes) rfl sc_Reader_init.nd (pi_enumT (by rfl) T.z_enumerate (pa_cons (pv 1) pa_nil)) (blkOk_by (N := N_Reader_init) (sc := C8.fnScope s_Reader_init) (by decide +kernel)) (fun _ _ _ _ _ => pg_tup (by rfl) (pgs_cons (pg_name (i := 3) sc_Reader_init.nd rfl (Or.inl rfl)) (pgs_cons (pg_name (i := 4) sc_Reader_init.nd rfl (Or.inl rfl)) pgs_nil))) (fun _ _ _ _ _ => pts_nil) (fun _ _ _ _ _ => (pe_tup (pa_cons (pe_fldK (K := K) rfl (pv 4) rfl) (pa_cons (pe_tup (pa_cons (pv 3) (pa_cons pe_int (pa_cons pe_int pa_nil)))) pa_nil))))) pa_nil))))
      (pss_cons (ps_for PassesOwn.never rfl (pi_enumT (by rfl) T.z_enumerate (pa_cons (pv 1) pa_nil)) (pg_tup rfl (pgs_cons (pg_name (i := 3) sc_Reader_init.nd rfl (Or.inl rfl)) (pgs_cons (pg_name (i := 4) sc_Reader_init.nd rfl (Or.inl rfl)) pgs_nil)))
      (pss_one (ps_for PassesOwn.never rfl (pi_range2 (by rfl) T.z_range (pa_cons pe_int (pa_cons (pe_op op_add (pe_callB (call_max2 rfl) (by rfl) T.z_max (by decide +kernel) (pa_cons (pe_fld (pv 4) rfl) (pa_cons pe_int pa_nil))) pe_int) pa_nil))) (pg_name (i := 5) sc_Reader_init.nd rfl (Or.inl rfl))
      (pss_one (ps_dputXK (P := P) (w := w) (K := K) rfl rfl rfl hu (pv 2) (pe_tup (pa_cons (pv 3) (pa_cons (pv 5) (pa_cons pe_int pa_nil)))) (C8.pe_c C_longestFirst hr (by decide) rfl (pa_cons (C8.pe_c C_pieceMarks hr (by decide) rfl (pa_cons (pv 4) (pa_cons (pv 3) (pa_cons (pv 5) pa_nil)))) pa_nil)) rfl)))))
      (pss_one (ps_fld (pv 0) (pv 2) rfl))))), ?_⟩

  obtain ⟨a, dx, b, rs, rfl, ha, hb, hz, hru, tb, q⟩ := h
  have clD := A0.iD.cl
  have clR := A0.iR.cl
  have gC := (Classical.choose_spec T.g_CODE).2
  refine ⟨_, rfl, _, rfl, a, CD, dx, _, rfl, ha, clD, A0.d1, by decide, ?_⟩
  rw [show putF (Str.ofString "parts") (V.ref b) [] = [(Str.ofString "parts", V.ref b)] from rfl]
  have nab : b ≠ a := ne_of hb ha fun z => nomatch z
  have hb1 : (upd H a (.ins CD dx [("parts", .ref b)])) b = some (.tup rs) := by rw [upd_ne nab]; exact hb
  have ha1 : (upd H a (.ins CD dx [("parts", .ref b)])) a = some (.ins CD dx [("parts", .ref b)]) := upd_same
  have hru1 : ∀ r ∈ rs, RuG CR (upd H a (.ins CD dx [("parts", .ref b)])) r := fun r hr => by
    obtain ⟨a', dx', k, op, cx, nd, es, db, ln, e, h1, h2⟩ := hru r hr
    refine ⟨a', dx', k, op, cx, nd, es, db, ln, e, ?_, h2⟩
    rw [upd_ne fun z => by rw [z, ha] at h1; cases h1]
    exact h1
  have tb1 : LamX.Tabs (T0 P0) (upd H a (.ins CD dx [("parts", .ref b)])) := tabs_upd tb ha (fun _ z => nomatch z) fun _ _ z => nomatch z
  have x1 : ExX a H (upd H a (.ins CD dx [("parts", .ref b)])) := fun c o n z _ => by rw [upd_ne n]; exact z
  generalize upd H a (.ins CD dx [("parts", .ref b)]) = H1 at hb1 ha1 hru1 tb1 x1 ⊢
  refine fun p hp => ⟨_, rfl, b, rs, rfl, SqT.of (by rw [upd_ne (ne_of_none hb1 hp)]; exact hb1), fun D hD => ?_⟩
  have hp1 : (upd H1 p (DX P w p [])) p = some (DX P w p []) := upd_same
  have s1 := same1 hp (DX P w p [])
  generalize hH2 : upd H1 p (DX P w p []) = H2 at hp1 s1 hD ⊢
  have tb2 : LamX.Tabs (T0 P0) H2 := tb1.ext s1
  refine lc_it walk_enumT (fun i H' => ∃ ms, PInv K H2 D i ms H') ⟨[], upd_same, same1 hD _, Nat.le_refl _, fun _ z => nomatch z⟩ (fun i H' _ ⟨_, z⟩ => SqT.of (z.2.1 _ _ (s1 _ _ hb1))) ?_ ?_
  · rintro i x H3 H4 hi ⟨ms, pi⟩ ⟨T', x', r, rfl, hT, rfl, ex, er⟩
    cases ex
    dsimp only at er
    obtain ⟨a', dx', k, op, cx, nd, es, db, ln, rfl, g1, g2, g3⟩ := hru1 r (List.mem_of_getElem? er)
    have sT := same1 hT (.tup [.int (i : Int), .ref a'])
    have g4 := sT _ _ (pi.2.1 _ _ (s1 _ _ g1))
    refine ⟨T', _, rfl, SqT.of upd_same, rfl, _, _, rfl, _, _, rfl, rfl, rfl, ?_⟩
    dsimp only [tYes]
    rw [if_pos rfl]
    refine ⟨_, rfl, a', CR, dx', _, _, rfl, g4, clR, A0.r2, rfl, _, rfl, sz_3, fun t1 ht1 => ⟨sz_2, fun t ht => ?_⟩⟩
    have s2 := same_new sT ht1 (.tup [.int (i : Int), .int 1, .int 0])
    have s3 := same_new s2 ht (.tup [.str op, .ref t1])
    exact ⟨ms, s3 _ _ pi.1, szL (by have := pi.2.2.1; omega), _, pinv_push hD pi s3 upd_same (by omega)⟩
  · rintro H3 ⟨ms, pi⟩
    refine ⟨D, ms, rfl, SqL.of pi.1, by have := pi.2.2.1; omega, pi.2.2.2, tb2.ext pi.2.1, fun H4 v e4 tb4 => ?_⟩
    have hp4 := e4 _ _ (pi.2.1 _ _ hp1) dx_ne.1
    refine ⟨[.inl (-1), .inl 0, .inl 0], _, hp4, rfl, gC H4, fun u nc => ?_⟩
    have e14 : LamX.ExtN H1 H4 := fun c o z n => e4 c o (pi.2.1 _ _ (s1 _ _ z)) n
    have nf : ∀ {c o}, H1 c = some o → c ≠ p := fun z => ne_of_none z hp
    -- the loops
    refine ⟨_, rfl, b, rs, rfl, SqT.of (by rw [upd_ne (nf hb1)]; exact e14 _ _ hb1 (fun _ z => nomatch z)), ?_⟩
    have start : ∃ xs : List Ent, (upd H4 p (DX P w p [([.inl (-1), .inl 0, .inl 0], Classical.choose T.g_CODE, u)])) p = some (DX P w p xs) ∧ EntsAt K (upd H4 p (DX P w p [([.inl (-1), .inl 0, .inl 0], Classical.choose T.g_CODE, u)])) xs ∧ xs.length ≤ 1 + 4 * 0 ∧ LamX.ExtN H1 (upd H4 p (DX P w p [([.inl (-1), .inl 0, .inl 0], Classical.choose T.g_CODE, u)])) ∧ LamX.Tabs (T0 P0) (upd H4 p (DX P w p [([.inl (-1), .inl 0, .inl 0], Classical.choose T.g_CODE, u)])) := by
      refine ⟨_, upd_same, fun y hy => ?_, by show 1 ≤ 1; decide, fun c o z n => by rw [upd_ne (nf z)]; exact e14 c o z n, tabs_updN tb4 hp4 dx_ne.1 nc⟩
      rw [List.mem_singleton.mp hy]
      exact gC _
    refine for_it walk_enumT (fun i σ H' => ∃ (v3 v4 v5 : Option V), σ = [some (.ref a), some (.ref b), some (.ref p), v3, v4, v5] ∧ ∃ xs : List Ent, H' p = some (DX P w p xs) ∧ EntsAt K H' xs ∧ xs.length ≤ 1 + 4 * i ∧ LamX.ExtN H1 H' ∧ LamX.Tabs (T0 P0) H')
      ⟨none, none, none, rfl, start⟩ (fun i σ H' _ ⟨_, _, _, _, _, _, _, _, z, _⟩ => SqT.of (z _ _ hb1 fun _ z => nomatch z)) ?_ ?_
    · rintro i x σ H5 H6 hi ⟨v3, v4, v5, rfl, xs, d1, d2, d3, d4, d5⟩ ⟨T', x', r, rfl, hT, rfl, ex, er⟩
      cases ex
      dsimp only at er
      have hri := hru1 r (List.mem_of_getElem? er)
      have hril := (List.getElem?_eq_some_iff.mp er).1
      refine ⟨T', _, rfl, SqT.of upd_same, rfl, _, _, rfl, _, _, rfl, rfl, ?_⟩
      have sT := same1 hT (.tup [.int (i : Int), r])
      have d1' := sT _ _ d1
      have d2' : EntsAt K (upd H5 T' (.tup [.int (i : Int), r])) xs := d2.ext (extN_same sT)
      have d4' : LamX.ExtN H1 (upd H5 T' (.tup [.int (i : Int), r])) := d4.trans (extN_same sT)
      have d5' := d5.ext sT
      generalize upd H5 T' (.tup [.int (i : Int), r]) = H6 at d1' d2' d4' d5' ⊢
      obtain ⟨a', dx', k, op, cx, nd, es, db, ln, rfl, g1, g2, g3, g5, g6⟩ := hri
      have g4 := d4' _ _ g1 (fun _ z => nomatch z)
      refine ⟨_, rfl, a', CR, dx', _, _, rfl, g4, clR, A0.r4, rfl, _, _, rfl, _, _, rfl, rfl, ?_⟩
      obtain ⟨n, hn1, hn2, hn3⟩ : ∃ n : Nat, 1 ≤ n ∧ n ≤ 4 ∧ (if (1 : Int) > (nd : Int) then (1 : Int) else (nd : Int)) = (n : Int) := by
        by_cases z : (1 : Int) > (nd : Int)
        · exact ⟨1, by decide, by decide, by rw [if_pos z]; rfl⟩
        · exact ⟨nd, by omega, g5, by rw [if_neg z]⟩
      rw [hn3]
      refine ⟨1, _, rfl, ⟨by decide, by decide, by omega, by omega⟩, ?_⟩
      refine for_range (lo := 1) (n := ((n : Int) + 1 - 1).toNat) (fun j σ H' => ∃ (v5 : Option V), σ = [some (.ref a), some (.ref b), some (.ref p), some (.int (i : Int)), some (.ref a'), v5] ∧ ∃ xs : List Ent, H' p = some (DX P w p xs) ∧ EntsAt K H' xs ∧ xs.length ≤ 1 + 4 * i + j ∧ LamX.ExtN H1 H' ∧ LamX.Tabs (T0 P0) H')
        ⟨_, rfl, xs, d1', d2', by omega, d4', d5'⟩ ?_ ?_
      · rintro j σ H7 hj ⟨v5, rfl, xs, d1, d2, d3, d4, d5⟩
        have g7 : RuG CR H7 (.ref a') := ⟨a', dx', k, op, cx, nd, es, db, ln, rfl, d4 _ _ g1 (fun _ z => nomatch z), g2, g3, g5, g6⟩
        refine ⟨_, rfl, _, rfl, _, rfl, .ref a', i, 1 + j, by rw [show (1 : Int) + (j : Int) = ((1 + j : Nat) : Int) by omega]; rfl, g7, fun H8 L ms s8 hL hLs hms hmk => ?_⟩
        refine ⟨L, ms, rfl, SqL.of hLs, by omega, hmk, d5.ext s8, fun H9 v e9 tb9 => ?_⟩
        have e79 : LamX.ExtN H7 H9 := fun c o z n => e9 c o (s8 _ _ z) n
        have d19 := e79 _ _ d1 dx_ne.1
        refine ⟨_, rfl, _, rfl, _, rfl, sz_3, fun t ht => ?_⟩
        have st := same1 ht (.tup [.int (i : Int), .int (1 + (j : Int)), .int 0])
        refine ⟨p, xs, [.inl (i : Int), .inl (1 + (j : Int)), .inl 0], t, rfl, st _ _ d19, (d2.ext e79).ext (extN_same st), rfl, SqT.of upd_same, szB (by omega), fun u nc => ?_⟩
        refine ⟨_, rfl, _, upd_same, ?_, ?_, ?_, ?_⟩
        · refine EntsAt.updX (ents_stored ((d2.ext e79).ext (extN_same st)) (SqT.of upd_same)) (st _ _ d19)
        · have := storedH_length xs [.inl (i : Int), .inl (1 + (j : Int)), .inl 0] t u
          omega
        · exact fun c o z n => by
            rw [upd_ne (nf z)]
            exact st _ _ (e79 _ _ (d4 c o z n) n)
        · exact tabs_updN (tb9.ext st) (st _ _ d19) dx_ne.1 nc
      · rintro σ H7 ⟨v5, rfl, xs, d1, d2, d3, d4, d5⟩
        exact ⟨_, _, _, rfl, xs, d1, d2, by omega, d4, d5⟩
    · rintro σ H5 ⟨v3, v4, v5, rfl, xs, d1, d2, d3, d4, d5⟩
      have ha5 := d4 _ _ ha1 (fun _ z => nomatch z)
      refine ⟨_, rfl, _, rfl, a, CD, dx, _, rfl, ha5, clD, A0.d2, (by decide : (1 : Nat) < 1000), ?_⟩
      refine q _ (fun c o n z m => ?_) (tabs_upd d5 ha5 (fun _ z => nomatch z) fun _ _ z => nomatch z)
      rw [upd_ne n]
      exact d4 _ _ (x1 c o n z m) m

end
end Vf

set_option maxRecDepth 100000
set_option maxHeartbeats 4000000
namespace Vf
open PySem PySem.Spec PyProof.Rows L2 SX
section
variable {P : Program} {w : World} {K : PySem.W.Frag} {mg : Str → Option Value} {base : Heap}
theorem eqv_self (o : Str) : eqV (.str o) (.str o) = true := by show ((o == o) = true); exact beq_self_eq_true _
theorem none_ahead {g : List Str} {o : Str} {j : Nat} (h : ∀ m, m < j → g[m]? ≠ some o) : ∀ (m : Nat) (z : V), m < j → (g.map V.str)[m]? = some z → eqV z (.str o) = false := fun m z hm hz => by
  rw [List.getElem?_map] at hz
  obtain ⟨u, hu, rfl⟩ := Option.map_eq_some_iff.mp hz
  show (u == o) = false
  exact beq_eq_false_iff_ne.mpr fun e => h m hm (by rw [hu, e])
theorem at_next {g : List Str} {j : Nat} {u : Str} (h : g[j + 1]? = some u) : atI (g.map V.str) ((j : Int) + 1) = some (.str u) := by
  have := atI_nat (xs := g.map V.str) (j := j + 1) (v := .str u) (by rw [List.getElem?_map, h]; rfl)
  have e : (((j + 1 : Nat)) : Int) = (j : Int) + 1 := by omega
  rw [e] at this
  exact this
theorem kind_at {w : Str} (h : w = "remark" ∨ w = "quote") : ∃ c, atI w.cps.toList 0 = some c := by
  rcases h with rfl | rfl
  · exact ⟨114, by decide +kernel⟩
  · exact ⟨113, by decide +kernel⟩
theorem depth_of {w : Str} (h : w ∈ (["2", "3", "4"] : List Str)) : ∃ n : Nat, PySem.intText? w = some (n : Int) ∧ n ≤ 4 ∧ w.length ≤ 640 := by
  simp only [List.mem_cons, List.not_mem_nil, or_false] at h
  rcases h with rfl | rfl | rfl
  · exact ⟨2, by decide +kernel, by decide, by decide +kernel⟩
  · exact ⟨3, by decide +kernel, by decide, by decide +kernel⟩
  · exact ⟨4, by decide +kernel, by decide, by decide +kernel⟩
theorem ok_Rule_init {f : Addr} {fd : FuncData} {q : Str} {CR CD CG : Addr} (M : Mk K CR f) (gc : mg "Rule" = some (.ref CR)) (F : C8.Fun K "__init__" q s_Rule_init f fd) (b : Binds K fd ["self", "words"] []) (T : Tx K w mg) (A0 : Ca K CR CD CG) : C8.Mak P w K mg base 1 "Rule" CR (sp_Rule_init K CR) [] := by
  refine C8.mak0 M gc F b .nil sc_Rule_init (fun vs H Q E h => ?_) (fun cdv A outer s H vs Q E hr h => ?_)
  · obtain ⟨a, dx, wa, ws, os, rfl, _⟩ := h; rfl
  have hu := hu_of hr
  refine ⟨_, (pss_cons (ps_set (i := 2) sc_Rule_init.nd rfl (Or.inl rfl) (pe_slice sl_list (pv 1) (po_some pe_int) po_none))
      (pss_cons (ps_fld (pv 0) (pe_ix ix_str (pe_ix ix_list (pv 1) pe_int (fun _ _ => rfl)) pe_int (fun _ _ => rfl)) rfl)
      (pss_cons (ps_fld (pv 0) (pe_ix ix_list (pv 1) pe_int (fun _ _ => rfl)) rfl)
      (C8.pss_cut (ps_fld (pv 0) (pe_ifExp (pt_cmpR op_eq (pe_ix ix_list (pv 1) pe_int (fun _ _ => rfl)) pe_str (nomark _)) pe_str (pe_ix ix_list (pv 1) pe_int (fun _ _ => rfl))) rfl)
      (C8.pss_cut (ps_fld (pv 0) (pe_ifExp (pt_cmpR op_in_seq pe_str (pv 2) rfl) (pe_callTy call_int_str (by rfl) T.z_int (by decide +kernel) (pa_cons (pe_ix ix_list (pv 2) (pe_op op_add (pe_bm PySem.F.plainAttrs_list PySem.F.slot_list_index PySem.F.type_list_index mt_index (pv 2) (pa_cons pe_str pa_nil)) pe_int) (fun _ _ => rfl)) pa_nil)) pe_int) rfl)
      (C8.pss_cut (ps_fld (pv 0) (pe_ifExp (pt_cmpR op_in_seq pe_str (pv 2) rfl) (pe_ix ix_list (pv 2) (pe_op op_add (pe_bm PySem.F.plainAttrs_list PySem.F.slot_list_index PySem.F.type_list_index mt_index (pv 2) (pa_cons pe_str pa_nil)) pe_int) (fun _ _ => rfl)) pe_str) rfl)
      (pss_cons (ps_fld (pv 0) (pe_cmpR op_in_seq pe_str (pv 2) rfl) rfl)
      (pss_one (ps_fld (pv 0) (pe_or (pe_cmpR op_eq (pe_ix ix_list (pv 1) pe_int (fun _ _ => rfl)) pe_str (nomark _)) (pe_one (pe_cmpR op_in_seq pe_str (pv 2) rfl))) rfl))))))))), ?_⟩

  obtain ⟨a, dx, wa, ws, os, rfl, ha, hw, cv, hz, q⟩ := h
  have cl := A0.iR.cl
  have h4 := cv.2.1
  refine ⟨_, rfl, 4, rfl, wa, _, rfl, hw, fun G hG => ?_⟩
  have eG : cutV (ws.map V.str) (some 4) none = (ws.drop 4).map V.str := (cut_from _ 4).trans (strs_drop ws 4)
  rw [eG]
  have aG : a ≠ G := ne_of_none ha hG
  have keep : ∀ o, ∀ b u, b ≠ a → H b = some u → (upd (upd H G (.lst ((ws.drop 4).map V.str))) a o) b = some u := fun o b u n e => by rw [upd_ne n, upd_ne (ne_of_none e hG)]; exact e
  have gL : ∀ o, (upd (upd H G (.lst ((ws.drop 4).map V.str))) a o) G = some (.lst ((ws.drop 4).map V.str)) := fun o => by rw [upd_ne aG.symm]; exact upd_same
  have ha1 : (upd H G (.lst ((ws.drop 4).map V.str))) a = some (.ins CR dx []) := by rw [upd_ne aG]; exact ha
  have hw1 : SqL K (upd H G (.lst ((ws.drop 4).map V.str))) wa (ws.map V.str) := sqL_same (same1 hG _) hw
  have hw2 : ∀ o, SqL K (upd (upd H G (.lst ((ws.drop 4).map V.str))) a o) wa (ws.map V.str) := fun o => sqL_ins hw1 ha1
  obtain ⟨c0, k0⟩ := kind_at (vd_0 cv.1 (by omega))
  have m1 := mk_len (vd_1 cv.1 (by omega))
  have w3 := vd_3 cv.1 h4
  refine ⟨_, rfl, wa, _, 0, _, rfl, rfl, hw1, at_strs (i := 0) (by omega), ws[0], _, c0, rfl, rfl, ?_, k0, ?_⟩
  · rcases vd_0 cv.1 (by omega) with z | z <;> rw [z] <;> exact szB (by decide +kernel)
  refine ⟨_, rfl, a, CR, dx, _, rfl, ha1, cl, A0.r1, by decide, ?_⟩
  refine ⟨_, rfl, wa, _, 1, _, rfl, rfl, hw2 _, at_strs (i := 1) (by omega), _, rfl, a, CR, dx, _, rfl, upd_same, cl, A0.r2, (by decide : (1 : Nat) < 1000), ?_⟩
  rw [upd_upd]
  refine ⟨fun σ' H' => ∃ cx : Str, cx.length ≤ 4 ∧ σ' = [some (.ref a), some (.ref wa), some (.ref G)] ∧ H' = upd (upd H G (.lst ((ws.drop 4).map V.str))) a (.ins CR dx [("kind", .str ⟨#[c0]⟩), ("opener", .str ws[1]), ("closer", .str cx)]), ?_, ?_⟩
  · refine ⟨_, rfl, wa, _, 3, _, rfl, rfl, hw2 _, at_strs (i := 3) (by omega), rfl, _, rfl, ?_⟩
    rw [dS]
    rcases Decidable.em (ws[3] = "line") with c3 | c3
    · refine ify (decide_eq_true c3) ?_
      refine ⟨_, rfl, a, CR, dx, _, rfl, upd_same, cl, A0.r3, (by decide : (2 : Nat) < 1000), ?_⟩
      exact ⟨"", by decide +kernel, rfl, by rw [upd_upd]; rfl⟩
    · refine ifn (decide_eq_false c3) ?_
      refine ⟨_, rfl, wa, _, 3, _, rfl, rfl, hw2 _, at_strs (i := 3) (by omega), ?_⟩
      refine ⟨_, rfl, a, CR, dx, _, rfl, upd_same, cl, A0.r3, (by decide : (2 : Nat) < 1000), ?_⟩
      exact ⟨ws[3], (mk_len (w3.resolve_left c3)).2, rfl, by rw [upd_upd]; rfl⟩
  rintro σ' H' ⟨cx, hcx, rfl, rfl⟩
  refine ⟨fun σ' H' => ∃ nd : Nat, nd ≤ 4 ∧ σ' = [some (.ref a), some (.ref wa), some (.ref G)] ∧ H' = upd (upd H G (.lst ((ws.drop 4).map V.str))) a (.ins CR dx [("kind", .str ⟨#[c0]⟩), ("opener", .str ws[1]), ("closer", .str cx), ("nested", .int (nd : Int))]), ?_, ?_⟩
  · refine ⟨_, rfl, G, _, rfl, .inl (SqL.of (gL _)), rfl, flat_strs _, _, rfl, ?_⟩
    rw [if_neg Bool.false_ne_true, inV_strs]
    by_cases c4 : ("nested" : Str) ∈ ws.drop 4
    · obtain ⟨u, hu1, hu2, _⟩ := opt_next cv (.inl rfl) c4
      obtain ⟨n, n1, n2, n3⟩ := depth_of (hu2 rfl)
      obtain ⟨i1, i2⟩ := idx_first c4
      refine ify (decide_eq_true c4) ?_
      refine ⟨_, rfl, _, rfl, .inl ⟨rfl, _, SqL.of (gL _)⟩, G, _, _, (ws.drop 4).idxOf ("nested" : Str), _, rfl, rfl, SqL.of (gL _), rfl, flat_strs _, by rw [List.getElem?_map, i1]; rfl, eqv_self _, none_ahead i2, ?_⟩
      refine ⟨_, _, rfl, rfl, G, _, _, _, rfl, rfl, SqL.of (gL _), at_next hu1, u, (n : Int), rfl, n1, n3, ?_⟩
      refine ⟨_, rfl, a, CR, dx, _, rfl, upd_same, cl, A0.r4, (by decide : (3 : Nat) < 1000), ?_⟩
      exact ⟨n, n2, rfl, by rw [upd_upd]; rfl⟩
    · refine ifn (decide_eq_false c4) ?_
      refine ⟨_, rfl, a, CR, dx, _, rfl, upd_same, cl, A0.r4, (by decide : (3 : Nat) < 1000), ?_⟩
      exact ⟨0, by decide, rfl, by rw [upd_upd]; rfl⟩
  rintro σ' H' ⟨nd, hnd, rfl, rfl⟩
  refine ⟨fun σ' H' => ∃ es : Str, es.length ≤ 4 ∧ σ' = [some (.ref a), some (.ref wa), some (.ref G)] ∧ H' = upd (upd H G (.lst ((ws.drop 4).map V.str))) a (.ins CR dx [("kind", .str ⟨#[c0]⟩), ("opener", .str ws[1]), ("closer", .str cx), ("nested", .int (nd : Int)), ("escape", .str es)]), ?_, ?_⟩
  · refine ⟨_, rfl, G, _, rfl, .inl (SqL.of (gL _)), rfl, flat_strs _, _, rfl, ?_⟩
    rw [if_neg Bool.false_ne_true, inV_strs]
    by_cases c4 : ("escape" : Str) ∈ ws.drop 4
    · obtain ⟨u, hu1, _, hu2⟩ := opt_next cv (.inr rfl) c4
      obtain ⟨i1, i2⟩ := idx_first c4
      refine ify (decide_eq_true c4) ?_
      refine ⟨_, rfl, _, rfl, .inl ⟨rfl, _, SqL.of (gL _)⟩, G, _, _, (ws.drop 4).idxOf ("escape" : Str), _, rfl, rfl, SqL.of (gL _), rfl, flat_strs _, by rw [List.getElem?_map, i1]; rfl, eqv_self _, none_ahead i2, ?_⟩
      refine ⟨_, _, rfl, rfl, G, _, _, _, rfl, rfl, SqL.of (gL _), at_next hu1, ?_⟩
      refine ⟨_, rfl, a, CR, dx, _, rfl, upd_same, cl, A0.r5, (by decide : (4 : Nat) < 1000), ?_⟩
      exact ⟨u, by have := (hu2 rfl).1; omega, rfl, by rw [upd_upd]; rfl⟩
    · refine ifn (decide_eq_false c4) ?_
      refine ⟨_, rfl, a, CR, dx, _, rfl, upd_same, cl, A0.r5, (by decide : (4 : Nat) < 1000), ?_⟩
      exact ⟨"", by decide +kernel, rfl, by rw [upd_upd]; rfl⟩
  rintro σ' H' ⟨es, hes, rfl, rfl⟩
  refine ⟨_, rfl, G, _, rfl, .inl (SqL.of (gL _)), rfl, flat_strs _, ?_⟩
  rw [if_neg Bool.false_ne_true, inV_strs]
  refine ⟨_, rfl, a, CR, dx, _, rfl, upd_same, cl, A0.r6, (by decide : (5 : Nat) < 1000), ?_⟩
  rw [upd_upd]
  have e1 : ws.getD 1 "" = ws[1] := getD_at (by omega)
  have fin : ∀ ln : Bool, Q .non (upd (upd H G (.lst ((ws.drop 4).map V.str))) a (.ins CR dx (ruF ⟨#[c0]⟩ ws[1] cx nd es (decide (("doubled" : Str) ∈ ws.drop 4)) ln))) := fun ln => by
    have := q ⟨#[c0]⟩ cx nd es (decide (("doubled" : Str) ∈ ws.drop 4)) ln hcx hnd hes
    rw [e1] at this
    exact this _ (fun b u n e => keep _ b u n e) upd_same
  refine ⟨_, rfl, wa, _, 3, _, rfl, rfl, hw2 _, at_strs (i := 3) (by omega), rfl, _, rfl, ?_⟩
  rw [dS]
  rcases Decidable.em (ws[3] = "line") with c3 | c3
  · refine ify (decide_eq_true c3) ?_
    refine ⟨_, rfl, a, CR, dx, _, rfl, upd_same, cl, A0.r7, (by decide : (6 : Nat) < 1000), ?_⟩
    show Q .non _
    rw [upd_upd]
    exact fin true
  · refine ifn (decide_eq_false c3) ?_
    refine ⟨_, rfl, G, _, rfl, .inl (SqL.of (gL _)), rfl, flat_strs _, ?_⟩
    refine ⟨_, rfl, a, CR, dx, _, rfl, upd_same, cl, A0.r7, (by decide : (6 : Nat) < 1000), ?_⟩
    show Q .non _
    rw [upd_upd]
    exact fin _

end
end Vf

set_option maxRecDepth 100000
set_option maxHeartbeats 4000000
namespace Vf
open PySem PySem.Spec PyProof.Rows L2 SX
section
variable {P : Program} {w : World} {K : PySem.W.Frag} {mg : Str → Option Value} {base : Heap}
theorem str_nat4 : ∀ d : Nat, d ≤ 4 → GoodS 8 (toString ((d : Nat) : Int)) := by
  have h : ∀ z ∈ ([toString (0 : Int), toString (1 : Int), toString (2 : Int), toString (3 : Int), toString (4 : Int)] : List Str), GoodS 8 z := goods_of (by decide +kernel)
  intro d hd
  refine h _ ?_
  rcases (by omega : d = 0 ∨ d = 1 ∨ d = 2 ∨ d = 3 ∨ d = 4) with rfl | rfl | rfl | rfl | rfl <;> simp
theorem ok_ruleLine {f : Addr} {fd : FuncData} (F : C8.Def K mg "_law_rule_line" s_ruleLine f fd) (b : Binds K fd ["_law_rule"] []) (T : Tx K w mg)  : C8.Cal P w K mg base 1 "_law_rule_line" sp_ruleLine [] := by
  refine C8.cal0 F b .nil sc_ruleLine (fun vs H Q E h => ?_) (fun cdv A outer s H vs Q E hr h => ?_)
  · obtain ⟨v, rfl, _⟩ := h; rfl
  have hu := hu_of hr
  refine ⟨_, (pss_cons (ps_asg (pv 0) (pg_tup (by rfl) (pgs_cons (pg_name (i := 1) sc_ruleLine.nd rfl (Or.inl rfl)) (pgs_cons (pg_name (i := 2) sc_ruleLine.nd rfl (Or.inl rfl)) (pgs_cons (pg_name (i := 3) sc_ruleLine.nd rfl (Or.inl rfl)) (pgs_cons (pg_name (i := 4) sc_ruleLine.nd rfl (Or.inl rfl)) (pgs_cons (pg_name (i := 5) sc_ruleLine.nd rfl (Or.inl rfl)) (pgs_cons (pg_name (i := 6) sc_ruleLine.nd rfl (Or.inl rfl)) (pgs_cons (pg_name (i := 7) sc_ruleLine.nd rfl (Or.inl rfl)) pgs_nil)))))))))
      (C8.pss_cut (ps_set (i := 8) sc_ruleLine.nd rfl (Or.inl rfl) (pe_op op_cat (pe_lst (pa_cons (pv 1) (pa_cons (pv 2) (pa_cons pe_str (pa_cons (pe_ifExp (pt_cmpR op_ne (pv 3) pe_str (nomark _)) (pv 3) pe_str) pa_nil))))) (pe_ifExp (pt_cmpR op_gt (pv 4) pe_int (nomark _)) (pe_lst (pa_cons pe_str (pa_cons (pe_callTy call_str_int (by rfl) T.z_str (by decide +kernel) (pa_cons (pv 4) pa_nil)) pa_nil))) (pe_lst pa_nil))))
      (C8.pss_cut (ps_set (i := 8) sc_ruleLine.nd rfl (Or.inl rfl) (pe_op op_cat (pe_op op_cat (pv 8) (pe_ifExp (pt_cmpR op_ne (pv 5) pe_str (nomark _)) (pe_lst (pa_cons pe_str (pa_cons (pv 5) pa_nil))) (pe_lst pa_nil))) (pe_ifExp (pt_val (pv 6)) (pe_lst (pa_cons pe_str pa_nil)) (pe_lst pa_nil))))
      (pss_one (ps_ret (pe_join pe_str (pe_op op_cat (pv 8) (pe_ifExp (pt_val (pv 7)) (pe_lst (pa_cons pe_str pa_nil)) (pe_lst pa_nil))))))))), ?_⟩

  obtain ⟨v, rfl, ⟨a, k, o, c, d, e, b1, b2, rfl, ha, gk, go, gc, hd, ge⟩, q⟩ := h
  have step : ∀ {t : TS} {u : TS} {D : Ends} {σ : L2.St} {H1 : Hp} (n : Nat), t { D with nx := fun σ' H' => ∃ B, σ' = [some (.ref a), some (.str k), some (.str o), some (.str c), some (.int (d : Int)), some (.str e), some (.bl b1), some (.bl b2), some (.ref B)] ∧ LwAt H B n H' } σ H1 → (∀ (B : Addr) (H' : Hp), LwAt H B n H' → u D [some (.ref a), some (.str k), some (.str o), some (.str c), some (.int (d : Int)), some (.str e), some (.bl b1), some (.bl b2), some (.ref B)] H') → C8.tCut t u D σ H1 := fun _ h1 h2 => ⟨_, h1, fun σ' H' ⟨m, e1, e2⟩ => by rw [e1]; exact h2 m H' e2⟩
  refine ⟨_, rfl, a, _, rfl, SqT.of ha, rfl, _, _, rfl, _, _, rfl, _, _, rfl, _, _, rfl, _, _, rfl, _, _, rfl, _, _, rfl, rfl, ?_⟩
  have gg : ∀ z ∈ (["to", "line", "nested", "escape", "doubled"] : List Str), GoodS 8 z := goods_of (by decide +kernel)
  refine step 6 ?_ fun B H1 i1 => step 9 ?_ fun B2 H2 i2 => ?_
  · refine ⟨_, rfl, _, rfl, _, rfl, rfl, _, rfl, ?_⟩
    refine ifv (.str c) (.str "line") (fun R z => ⟨_, rfl, z⟩) (fun R z => z) fun v hv => ?_
    have hv' : ∃ c', v = .str c' ∧ GoodS 8 c' := by
      rcases hv with ⟨_, rfl⟩ | ⟨_, rfl⟩
      · exact ⟨_, rfl, gc⟩
      · exact ⟨_, rfl, gg _ (by simp)⟩
    obtain ⟨c', rfl, gc'⟩ := hv'
    refine ⟨szB (n := 4) (by decide), fun B hB => ⟨_, rfl, _, _, rfl, rfl, _, rfl, ?_⟩⟩
    have i0 : LwAt H B 4 (upd H B (.lst ([k, o, "to", c'].map V.str))) := ⟨_, same1 hB _, upd_same, (show 1 ≤ 4 by decide), Nat.le_refl 4, by
      intro w hw
      simp only [List.mem_cons, List.not_mem_nil, or_false] at hw
      rcases hw with rfl | rfl | rfl | rfl
      · exact gk
      · exact go
      · exact gg _ (by simp)
      · exact gc'⟩
    refine ifl (A := (["nested", (toString ((d : Nat) : Int) : Str)] : List Str).map V.str) (fun R z => ⟨_, rfl, _, rfl, Nat.lt_of_le_of_lt (Nat.log2_le_self _) (by omega), szB (n := 2) (by decide), z⟩) fun Y H3 ys s3 hY hy => ?_
    have hy' : ∃ zs : List Str, ys = zs.map V.str ∧ zs.length ≤ 2 ∧ ∀ w ∈ zs, GoodS 8 w := by
      rcases hy with rfl | rfl
      · refine ⟨_, rfl, Nat.le_refl 2, fun w hw => ?_⟩
        simp only [List.mem_cons, List.not_mem_nil, or_false] at hw
        rcases hw with rfl | rfl
        · exact gg _ (by simp)
        · exact str_nat4 d hd
      · exact ⟨[], rfl, by decide, fun _ z => nomatch z⟩
    obtain ⟨zs, rfl, hz1, hz2⟩ := hy'
    exact lw_cat i0 s3 hY (by omega) (by decide) hz2 fun D H4 _ i4 => ⟨D, rfl, i4⟩
  · have i1' := i1
    refine ⟨_, rfl, _, rfl, rfl, _, rfl, ?_⟩
    refine ifl (A := (["escape", e] : List Str).map V.str) (fun R z => ⟨_, rfl, szB (n := 2) (by decide), z⟩) fun Y H3 ys s3 hY hy => ?_
    have hy' : ∃ zs : List Str, ys = zs.map V.str ∧ zs.length ≤ 2 ∧ ∀ w ∈ zs, GoodS 8 w := by
      rcases hy with rfl | rfl
      · refine ⟨_, rfl, Nat.le_refl 2, fun w hw => ?_⟩
        simp only [List.mem_cons, List.not_mem_nil, or_false] at hw
        rcases hw with rfl | rfl
        · exact gg _ (by simp)
        · exact ge
      · exact ⟨[], rfl, by decide, fun _ z => nomatch z⟩
    obtain ⟨zs, rfl, hz1, hz2⟩ := hy'
    refine lw_cat i1 s3 hY (m := 8) (by omega) (by decide) hz2 fun D H4 _ i4 => ⟨_, rfl, _, rfl, ?_⟩
    refine ifl (A := (["doubled"] : List Str).map V.str) (fun R z => ⟨szB (n := 1) (by decide), z⟩) fun Y H3 ys s3 hY hy => ?_
    have hy' : ∃ zs : List Str, ys = zs.map V.str ∧ zs.length ≤ 1 ∧ ∀ w ∈ zs, GoodS 8 w := by
      rcases hy with rfl | rfl
      · refine ⟨_, rfl, by decide, fun w hw => ?_⟩
        rw [List.mem_singleton.mp hw]
        exact gg _ (by simp)
      · exact ⟨[], rfl, by decide, fun _ z => nomatch z⟩
    obtain ⟨zs, rfl, hz1, hz2⟩ := hy'
    exact lw_cat i4 s3 hY (by omega) (by decide) hz2 fun D H4 _ i4 => ⟨D, rfl, i4⟩
  · refine ⟨⟨_, rfl⟩, _, rfl, _, rfl, _, rfl, ?_⟩
    refine ifl (A := (["line"] : List Str).map V.str) (fun R z => ⟨szB (n := 1) (by decide), z⟩) fun Y H3 ys s3 hY hy => ?_
    have hy' : ∃ zs : List Str, ys = zs.map V.str ∧ zs.length ≤ 1 ∧ ∀ w ∈ zs, GoodS 8 w := by
      rcases hy with rfl | rfl
      · refine ⟨_, rfl, by decide, fun w hw => ?_⟩
        rw [List.mem_singleton.mp hw]
        exact gg _ (by simp)
      · exact ⟨[], rfl, by decide, fun _ z => nomatch z⟩
    obtain ⟨zs, rfl, hz1, hz2⟩ := hy'
    refine lw_cat i2 s3 hY (m := 10) (by omega) (by decide) hz2 fun D H4 _ i4 => ?_
    obtain ⟨ws, s4, hD, l1, l2, g⟩ := i4
    have lb : ∀ w ∈ ws, w.length ≤ 8 := fun w hw => (g w hw).1
    refine ⟨_, D, ws, rfl, rfl, .inl (SqL.of hD), ?_, ?_⟩
    · have := lens_sum lb
      have h1 : (" " : Str).length = 1 := by decide +kernel
      rw [h1]
      omega
    · refine q H4 _ s4 ⟨?_, fun x hx => ?_⟩
      · rw [TL.len_tl, tl_joinS]
        have := joinL_len (s := TL.tl (" " : Str)) (b := 8) (ls := ws.map TL.tl) fun l hl => by
          obtain ⟨w, hw, rfl⟩ := List.mem_map.mp hl
          rw [← TL.len_tl]; exact lb w hw
        rw [List.length_map, show (TL.tl (" " : Str)).length = 1 by decide +kernel] at this
        omega
      · rw [tl_joinS] at hx
        rcases joinL_mem hx with z | ⟨l, hl, z⟩
        · rw [show TL.tl (" " : Str) = [32] by decide +kernel] at z
          rw [List.mem_singleton.mp z]
          exact ⟨by decide, by decide⟩
        · obtain ⟨w, hw, rfl⟩ := List.mem_map.mp hl
          exact (g w hw).2 x z

end
end Vf

set_option maxRecDepth 100000
set_option maxHeartbeats 4000000
namespace Vf
open PySem PySem.Spec PyProof.Rows L2 SX
section
variable {P : Program} {w : World} {K : PySem.W.Frag} {mg : Str → Option Value} {base : Heap}
theorem ok_ruleWeight {f : Addr} {fd : FuncData} {CR CD CG : Addr} (F : C8.Def K mg "rule_weight" s_ruleWeight f fd) (b : Binds K fd ["rule"] []) (T : Tx K w mg) (A0 : Ca K CR CD CG) : C8.Cal P w K mg base 1 "rule_weight" (sp_ruleWeight CR) [] := by
  refine C8.cal0 F b .nil sc_ruleWeight (fun vs H Q E h => ?_) (fun cdv A outer s H vs Q E hr h => ?_)
  · obtain ⟨v, rfl, _⟩ := h; rfl
  have hu := hu_of hr
  refine ⟨_, (C8.pss_cut (ps_set (i := 1) sc_ruleWeight.nd rfl (Or.inl rfl) (pe_ifExp (pt_truth (pe_fld (pv 0) rfl) (by intro _; rfl)) (pe_op op_sub (pe_callB call_len (by rfl) T.z_len PySem.boot_len (pa_cons (pe_fld (pv 0) rfl) pa_nil)) pe_int) pe_int))
      (C8.pss_cut (ps_if (pt_truth (pe_fld (pv 0) rfl) (by intro _; rfl))
      (pss_one (ps_aug (i := 1) sc_ruleWeight.nd rfl (Or.inl rfl) (pe_op op_sub (pe_callB call_len (by rfl) T.z_len PySem.boot_len (pa_cons (pe_fld (pv 0) rfl) pa_nil)) pe_int) ip_add))
      pss_nil)
      (C8.pss_cut (ps_if (pt_val (pe_fld (pv 0) rfl))
      (pss_one (ps_set (i := 1) sc_ruleWeight.nd rfl (Or.inl rfl) (pe_op op_sub (pe_op op_mul pe_int (pe_callB call_len (by rfl) T.z_len PySem.boot_len (pa_cons (pe_fld (pv 0) rfl) pa_nil))) pe_int)))
      pss_nil)
      (C8.pss_cut (ps_if (pt_truth (pe_fld (pv 0) rfl) (by intro _; rfl))
      (pss_one (ps_aug (i := 1) sc_ruleWeight.nd rfl (Or.inl rfl) pe_int ip_add))
      pss_nil)
      (pss_one (ps_ret (pe_op op_add (pe_op op_sub (pe_callB call_len (by rfl) T.z_len PySem.boot_len (pa_cons (pe_fld (pv 0) rfl) pa_nil)) pe_int) (pe_op op_mul (pe_callB (call_max2 rfl) (by rfl) T.z_max (by decide +kernel) (pa_cons (pe_fld (pv 0) rfl) (pa_cons pe_int pa_nil))) (pe_op op_add pe_int (pv 1)))))))))), ?_⟩

  obtain ⟨v, rfl, ⟨a, dx, k, op, cx, nd, es, db, ln, rfl, ha, h1, h2, h3, h4⟩, q⟩ := h
  have cl := A0.iR.cl
  have q0 := fun i => q i H (same_refl H)
  have step : ∀ {t : TS} {u : TS} {D : Ends} {σ : L2.St}, t { D with nx := fun σ' H' => ∃ m : Int, σ' = [some (.ref a), some (.int m)] ∧ H' = H } σ H → (∀ m : Int, u D [some (.ref a), some (.int m)] H) → C8.tCut t u D σ H := fun h1 h2 => ⟨_, h1, fun σ' H' ⟨m, e1, e2⟩ => by rw [e1, e2]; exact h2 m⟩
  refine step ?_ fun m => step ?_ fun m => step ?_ fun m => step ?_ fun m => ?_
  · refine ⟨_, rfl, a, CR, dx, _, _, rfl, ha, cl, A0.r3, rfl, _, ⟨szB (by omega), rfl⟩, ?_⟩
    cases ((cx.length : Int) != 0) with
    | true => exact ifT ⟨_, rfl, a, CR, dx, _, _, rfl, ha, cl, A0.r3, rfl, _, cx.length, rfl, ⟨szB (by omega), rfl⟩, _, _, rfl, rfl, _, rfl, rfl⟩
    | false => exact ifF ⟨0, rfl, rfl⟩
  · refine ⟨_, rfl, a, CR, dx, _, _, rfl, ha, cl, A0.r4, rfl, _, rfl, ?_⟩
    cases ((nd : Int) != 0) with
    | true => exact ifT ⟨_, rfl, _, rfl, a, CR, dx, _, _, rfl, ha, cl, A0.r2, rfl, _, op.length, rfl, ⟨szB (by omega), rfl⟩, _, _, rfl, rfl, _, _, rfl, rfl, _, rfl, rfl⟩
    | false => exact ifF ⟨m, rfl, rfl⟩
  · refine ⟨_, rfl, a, CR, dx, _, _, rfl, ha, cl, A0.r6, rfl, _, rfl, ?_⟩
    cases db with
    | true => exact ifT ⟨_, rfl, a, CR, dx, _, _, rfl, ha, cl, A0.r3, rfl, _, cx.length, rfl, ⟨szB (by omega), rfl⟩, _, _, rfl, rfl, .inl ⟨by decide, by decide⟩, _, _, rfl, rfl, _, rfl, rfl⟩
    | false => exact ifF ⟨m, rfl, rfl⟩
  · refine ⟨_, rfl, a, CR, dx, _, _, rfl, ha, cl, A0.r5, rfl, _, ⟨szB (by omega), rfl⟩, ?_⟩
    cases ((es.length : Int) != 0) with
    | true => exact ifT ⟨_, rfl, _, _, rfl, rfl, _, rfl, rfl⟩
    | false => exact ifF ⟨m, rfl, rfl⟩
  · refine ⟨_, rfl, a, CR, dx, _, _, rfl, ha, cl, A0.r2, rfl, _, op.length, rfl, ⟨szB (by omega), rfl⟩, _, _, rfl, rfl, ?_⟩
    refine ⟨_, rfl, a, CR, dx, _, _, rfl, ha, cl, A0.r4, rfl, _, _, rfl, ?_⟩
    refine ⟨_, rfl, _, _, rfl, rfl, _, _, rfl, rfl, .inl ?_, _, _, rfl, rfl, q0 _⟩
    split <;> constructor <;> omega

end
end Vf

set_option maxRecDepth 100000
set_option maxHeartbeats 4000000
namespace Vf
open PySem PySem.Spec PyProof.Rows L2 SX
section
variable {P : Program} {w : World} {K : PySem.W.Frag} {mg : Str → Option Value} {base : Heap}
theorem seqIx {r n : Nat} (h : r < n) : seqIndex? (r : Int) n = some r := by
  show (if (decide ((0 : Int) ≤ (if (r : Int) < 0 then (r : Int) + n else (r : Int))) && decide ((if (r : Int) < 0 then (r : Int) + n else (r : Int)) < (n : Int))) = true then some (if (r : Int) < 0 then (r : Int) + n else (r : Int)).toNat else none) = some r
  rw [if_neg (show ¬ ((r : Int) < 0) by omega), decide_eq_true (show (0 : Int) ≤ (r : Int) by omega), decide_eq_true (show (r : Int) < (n : Int) by omega)]
  rfl
theorem erase_one : ∀ (l : List Nat) (r : Nat), (l.map one).eraseIdx r = (l.eraseIdx r).map one
  | [], _ => rfl
  | _ :: _, 0 => rfl
  | c :: l, r + 1 => congrArg (one c :: ·) (erase_one l r)
theorem ok_some {f : Addr} {fd : FuncData} (F : C8.Def K mg "_law_some" s_some f fd) (b : Binds K fd ["_law_pen_here", "_law_items", "_law_many"] []) (T : Tx K w mg) (C_draw : C8.Cal P w K mg base 1 "_law_draw" sp_draw []) : C8.Cal P w K mg base 2 "_law_some" sp_some [] := by
  refine C8.cal0 F b .nil sc_some (fun vs H Q E h => ?_) (fun cdv A outer s H vs Q E hr h => ?_)
  · obtain ⟨p, c, a, m, n, l, rfl, _⟩ := h; rfl
  have hu := hu_of hr
  refine ⟨_, (pss_cons (ps_par (i := 3) (j := 4) (by rfl) sc_some.nd rfl rfl (by decide) rfl rfl (pa_cons (pe_callTy call_list_of (by rfl) T.z_list (by decide +kernel) (pa_cons (pv 1) pa_nil)) (pa_cons (pe_lst pa_nil) pa_nil)) (by rfl))
      (pss_cons (ps_for PassesOwn.never rfl (pi_range1 (by rfl) T.z_range (pa_cons (pe_callB (call_min2 rfl) (by rfl) T.z_min (by decide +kernel) (pa_cons (pv 2) (pa_cons (pe_callB call_len (by rfl) T.z_len PySem.boot_len (pa_cons (pv 3) pa_nil)) pa_nil))) pa_nil)) (pg_name (i := 5) sc_some.nd rfl (Or.inl rfl))
      (pss_one (ps_expr (pe_bm PySem.F.plainAttrs_list PySem.F.slot_list_append PySem.F.type_list_append mt_append (pv 4) (pa_cons (pe_bm PySem.F.plainAttrs_list PySem.F.slot_list_pop PySem.F.type_list_pop mt_popAt (pv 3) (pa_cons (C8.pe_c C_draw hr (by decide) rfl (pa_cons (pv 0) (pa_cons (pe_callB call_len (by rfl) T.z_len PySem.boot_len (pa_cons (pv 3) pa_nil)) pa_nil))) pa_nil)) pa_nil)))))
      (pss_one (ps_ret (pv 4))))), ?_⟩

  obtain ⟨p, c, a, m, n, l, rfl, hp, hm, ha, hn1, hn2, hn3, hn4, q⟩ := h
  refine ⟨_, rfl, a, _, rfl, .inl (SqL.of ha), fun A hA => ⟨szB (by decide), fun B hB => ?_⟩⟩
  have hA1 : (upd (upd H A (.lst (l.map one))) B (.lst [])) A = some (.lst (l.map one)) := by rw [upd_ne (ne_of_none (show (upd H A (.lst (l.map one))) A = _ from upd_same) hB)]; exact upd_same
  have hB0 : H B = none := (Ks.new1 hA (.lst (l.map one))).free hB
  refine ⟨_, _, rfl, _, rfl, _, rfl, _, l.length, rfl, .inl ⟨_, SqL.of hA1, (List.length_map ..).symm⟩, _, _, rfl, ((n : Nat) : Int), congrArg (fun z : Int => [V.int z]) (if_neg (show ¬ ((l.length : Nat) : Int) < (n : Int) by omega)), by omega, by omega, ?_⟩
  rw [show ((n : Nat) : Int).toNat = n by omega]
  refine for_range (lo := 0) (n := n) (fun i σ H' => ∃ (v5 : Option V) (xs ys : List Nat), σ = [some (.ref p), some (.ref a), some (.int (n : Int)), some (.ref A), some (.ref B), v5] ∧ H' A = some (.lst (xs.map one)) ∧ H' B = some (.lst (ys.map one)) ∧ xs.length + i = l.length ∧ ys.length = i ∧ (∀ x ∈ xs, x ∈ l) ∧ (∀ x ∈ ys, x ∈ l) ∧ Ks H H' ∧ PenAt H' p c (m + i))
    ⟨none, l, [], rfl, hA1, upd_same, rfl, rfl, fun _ z => z, (fun _ z => nomatch z), (Ks.new1 hA _).new hB _, (hp.new hA).new hB⟩ ?_ ?_
  · rintro i σ H1 hi ⟨v5, xs, ys, rfl, h1A, h1B, e1, e2, e3, e4, k1, p1⟩
    have nAB : A ≠ B := ne_of_none (show (upd H A (.lst (l.map one))) A = _ from upd_same) hB
    refine ⟨_, rfl, .inl ⟨rfl, _, SqL.of h1B⟩, _, rfl, .inl ⟨rfl, _, SqL.of h1A⟩, _, rfl, _, rfl, _, xs.length, rfl, .inl ⟨_, SqL.of h1A, (List.length_map ..).symm⟩, p, c, m + i, xs.length, rfl, p1, by omega, by omega, by omega, fun H2 r k2 p2 hr2 => ?_⟩
    have h2A := k2.lst h1A
    have h2B := k2.lst h1B
    refine ⟨A, _, (r : Int), r, one xs[r], rfl, rfl, h2A, by omega, by omega, by rw [List.length_map]; exact seqIx hr2, by rw [List.getElem?_map, List.getElem?_eq_getElem hr2]; rfl, ?_⟩
    have k3 : Ks H (upd H2 A (.lst ((xs.eraseIdx r).map one))) := (k1.trans k2).upd hA _
    have p3 : PenAt (upd H2 A (.lst ((xs.eraseIdx r).map one))) p c (m + i + 1) := p2.upd (hp.ne hA).1 (hp.ne hA).2
    rw [erase_one]
    have h3B : (upd H2 A (.lst ((xs.eraseIdx r).map one))) B = some (.lst (ys.map one)) := by rw [upd_ne (Ne.symm nAB)]; exact h2B
    refine ⟨B, _, _, rfl, rfl, h3B, szL (by rw [List.length_map]; omega), _, xs.eraseIdx r, ys ++ [xs[r]], rfl, ?_, ?_, ?_, ?_, ?_, ?_, k3.upd hB0 _, ?_⟩
    · rw [upd_ne nAB]; exact upd_same
    · rw [upd_same, List.map_append]; rfl
    · rw [List.length_eraseIdx, if_pos hr2]; omega
    · rw [List.length_append, e2]; rfl
    · exact fun x hx => e3 x (List.mem_of_mem_eraseIdx hx)
    · intro x hx
      rcases List.mem_append.mp hx with hx | hx
      · exact e4 x hx
      · rw [List.mem_singleton.mp hx]; exact e3 _ (List.getElem_mem _)
    · exact (p3.upd (hp.ne hB0).1 (hp.ne hB0).2).mono (by omega)
  · rintro σ H1 ⟨v5, xs, ys, rfl, h1A, h1B, e1, e2, e3, e4, k1, p1⟩
    exact ⟨_, rfl, q H1 B ys k1 p1 h1B e2 e4⟩

end
end Vf

set_option maxRecDepth 100000
set_option maxHeartbeats 4000000
namespace Vf
open PySem PySem.Spec PyProof.Rows L2 SX
section
variable {P : Program} {w : World} {K : PySem.W.Frag} {mg : Str → Option Value} {base : Heap}
theorem slL_to {K : PySem.W.Frag} {H : Hp} {a : Addr} {ws : List Str} {R : VK} {i : Int} (j : Nat) (hi : i = (j : Int)) (h : H a = some (.lst (ws.map V.str))) (q : ∀ b H', Same H H' → H' b = some (.lst ((ws.take j).map V.str)) → R (.ref b) H') : rSlL K (.ref a) none (some i) H R := by
  subst hi
  refine ⟨a, _, rfl, SqL.of h, fun p hp => ?_⟩
  rw [cut_to, strs_take]
  exact q p _ (same1 hp _) upd_same
theorem slL_from {K : PySem.W.Frag} {H : Hp} {σ : L2.St} {a : Addr} {ws : List Str} {R : VK} {i : Int} (j : Nat) (hi : i = (j : Int)) (h : H a = some (.lst (ws.map V.str))) (q : ∀ b H', Same H H' → H' b = some (.lst ((ws.drop j).map V.str)) → R (.ref b) H') : tNoPart σ H (fun u H3 => rSlL K (.ref a) (some i) u H3 R) := by
  subst hi
  refine ⟨a, _, rfl, SqL.of h, fun p hp => ?_⟩
  rw [cut_from, strs_drop]
  exact q p _ (same1 hp _) upd_same
theorem catS {H : Hp} {a b : Addr} {xs ys : List Str} {R : VK} (ha : H a = some (.lst (xs.map V.str))) (hb : H b = some (.lst (ys.map V.str))) (hl : xs.length + ys.length ≤ 1000000) (q : ∀ D H', Same H H' → H' D = some (.lst ((xs ++ ys).map V.str)) → R (.ref D) H') : rCat (.ref a) (.ref b) H R :=
  ⟨a, b, _, _, rfl, rfl, ha, hb, szB (by rw [List.length_map, List.length_map]; exact hl), fun p hp => q p _ (same1 hp _) (by rw [List.map_append]; exact upd_same)⟩
theorem st {H H1 H2 : Hp} (s : Same H H1) (t : Same H1 H2) : Same H H2 := fun b o z => t b o (s b o z)
def fl (xs : List Str) : Nat := (xs.map fun x => x.length + 1).sum
theorem fl_app (a b : List Str) : fl (a ++ b) = fl a + fl b := by unfold fl; rw [List.map_append, List.sum_append]
theorem fl_cons (x : Str) (b : List Str) : fl (x :: b) = x.length + 1 + fl b := rfl
theorem fl_cut (xs : List Str) (j : Nat) : fl (xs.take j) + fl (xs.drop j) = fl xs := by rw [← fl_app, List.take_append_drop]
theorem fl_drop1 : ∀ (xs : List Str) (j : Nat), fl (xs.drop (j + 1)) ≤ fl (xs.drop j)
  | [], _ => by simp
  | x :: r, 0 => by show fl r ≤ fl (x :: r); rw [fl_cons]; omega
  | x :: r, j + 1 => fl_drop1 r j
theorem fl_eq : ∀ xs : List Str, (xs.map (·.length)).sum + xs.length * 1 = fl xs
  | [] => rfl
  | x :: r => by
    have := fl_eq r
    rw [fl_cons, List.map_cons, List.sum_cons, List.length_cons]
    omega
theorem fl_spl (S0 : List Nat) : ∀ (l acc : List Nat) (k : Nat), ((TL.spl S0 k acc l).map fun p => p.length + 1).sum ≤ acc.length + l.length + 1
  | [], acc, k => by rw [TL.spl_nil]; show acc.length + 1 + 0 ≤ _; rw [List.length_nil]; omega
  | c :: r, acc, 0 => by
    by_cases e : TL.pre S0 (c :: r) = true
    · rw [TL.spl_hit e]
      have h1 := fl_spl S0 r [] (S0.length - 1)
      rw [List.map_cons, List.sum_cons, List.length_cons]
      rw [List.length_nil] at h1
      omega
    · rw [TL.spl_miss (Bool.eq_false_iff.mpr e)]
      have h1 := fl_spl S0 r (acc ++ [c]) 0
      rw [List.length_append, List.length_singleton] at h1
      rw [List.length_cons]; omega
  | c :: r, acc, k + 1 => by
    have h1 := fl_spl S0 r acc k
    show ((TL.spl S0 k acc r).map fun p => p.length + 1).sum ≤ _
    rw [List.length_cons]; omega
theorem fl_spS (l : Str) : fl (spS l) ≤ l.length + 1 := by
  have e := TL.split_spl l (" " : Str) (by decide +kernel) (TL.kind_ok (by decide +kernel))
  have h := fl_spl (TL.tl (" " : Str)) (TL.tl l) [] 0
  rw [← e, List.map_map, List.length_nil, Nat.zero_add, ← TL.len_tl] at h
  have : (List.map ((fun p : List Nat => p.length + 1) ∘ TL.tl) (Txt.split l (" " : Str))) = (spS l).map fun x => x.length + 1 := List.map_congr_left fun x _ => by show (TL.tl x).length + 1 = _; rw [← TL.len_tl]
  rw [this] at h
  exact h
def OkC (x : Str) : Prop := ∀ c ∈ TL.tl x, c ≠ 10 ∧ c < 1000
theorem spS_ok {l : Str} (h : OkC l) : ∀ x ∈ spS l, OkC x := fun w hw c hc => by
  have e := TL.split_spl l (" " : Str) (by decide +kernel) (TL.kind_ok (by decide +kernel))
  have hm : TL.tl w ∈ TL.spl (TL.tl (" " : Str)) 0 [] (TL.tl l) := by rw [← e]; exact List.mem_map_of_mem hw
  rcases spl_ch _ _ _ _ _ hm c hc with z | z
  · cases z
  · exact h c z
theorem joinL_fl : ∀ xs : List Str, (TL.joinL [32] (xs.map TL.tl)).length ≤ fl xs
  | [] => Nat.le_refl _
  | [x] => by show (TL.tl x).length ≤ _; rw [fl_cons, ← TL.len_tl]; omega
  | x :: y :: r => by
    have := joinL_fl (y :: r)
    show (TL.tl x ++ ([32] ++ TL.joinL [32] ((y :: r).map TL.tl))).length ≤ _
    rw [fl_cons, List.length_append, List.length_append, ← TL.len_tl, List.length_singleton]
    omega
theorem good_join {xs : List Str} {n : Nat} (h : ∀ x ∈ xs, OkC x) (hn : fl xs ≤ n) : GoodS n (Txt.join (" " : Str) xs) := by
  have e := tl_joinS (" " : Str) xs
  rw [show TL.tl (" " : Str) = [32] by decide +kernel] at e
  refine ⟨?_, fun c hc => ?_⟩
  · rw [TL.len_tl, e]; exact Nat.le_trans (joinL_fl xs) hn
  · rw [e] at hc
    rcases joinL_mem hc with z | ⟨l, hl, z⟩
    · rw [List.mem_singleton.mp z]; exact ⟨by decide, by decide⟩
    · obtain ⟨w, hw, rfl⟩ := List.mem_map.mp hl
      exact h w hw c z
theorem ok_cat3 {ws : List Str} {u : List Str} {i j : Nat} (h : ∀ x ∈ ws, OkC x) (hu : ∀ x ∈ u, OkC x) : ∀ x ∈ ws.take i ++ u ++ ws.drop j, OkC x := fun x hx => by
  rcases List.mem_append.mp hx with z | z
  · rcases List.mem_append.mp z with z | z
    · exact h x (List.mem_of_mem_take z)
    · exact hu x z
  · exact h x (List.mem_of_mem_drop z)
theorem ok_spoiled {f : Addr} {fd : FuncData} (F : C8.Def K mg "_law_spoiled" s_spoiled f fd) (b : Binds K fd ["_law_pen_here", "_law_lines", "_law_marks"] []) (T : Tx K w mg) (C_draw : C8.Cal P w K mg base 1 "_law_draw" sp_draw []) (C_pick : C8.Cal P w K mg base 2 "_law_pick" sp_pick []) (C_oddWords : C8.Cal P w K mg base 1 "_law_odd_words" sp_oddWords []) (C_allSigns : C8.Cal P w K mg base 2 "_law_all_signs" sp_allSigns []) : C8.Cal P w K mg base 3 "_law_spoiled" sp_spoiled [] := by
  refine C8.cal0 F b .nil sc_spoiled (fun vs H Q E h => ?_) (fun cdv A outer s H vs Q E hr h => ?_)
  · obtain ⟨p, c, a, b, m, n, ls, ms, rfl, _⟩ := h; rfl
  have hu := hu_of hr
  refine ⟨_, (pss_cons (ps_par (i := 3) (j := 4) (by rfl) sc_spoiled.nd rfl rfl (by decide) rfl rfl (pa_cons (C8.pe_c C_draw hr (by decide) rfl (pa_cons (pv 0) (pa_cons pe_int pa_nil))) (pa_cons (C8.pe_c C_draw hr (by decide) rfl (pa_cons (pv 0) (pa_cons (pe_callB call_len (by rfl) T.z_len PySem.boot_len (pa_cons (pv 1) pa_nil)) pa_nil))) pa_nil)) (by rfl))
      (pss_cons (ps_par (i := 5) (j := 6) (by rfl) sc_spoiled.nd rfl rfl (by decide) rfl rfl (pa_cons (pe_split (pe_ix ix_list (pv 1) (pv 4) (fun _ _ => rfl)) pe_str) (pa_cons (C8.pe_c C_pick hr (by decide) rfl (pa_cons (pv 0) (pa_cons (C8.pe_c C_oddWords hr (by decide) rfl (pa_cons (pv 2) pa_nil)) pa_nil))) pa_nil)) (by rfl))
      (pss_cons (ps_par (i := 7) (j := 8) (by rfl) sc_spoiled.nd rfl rfl (by decide) rfl rfl (pa_cons (C8.pe_c C_draw hr (by decide) rfl (pa_cons (pv 0) (pa_cons (pe_op op_add (pe_callB call_len (by rfl) T.z_len PySem.boot_len (pa_cons (pv 5) pa_nil)) pe_int) pa_nil))) (pa_cons (C8.pe_c C_pick hr (by decide) rfl (pa_cons (pv 0) (pa_cons (pe_c0 C_allSigns hr (by decide) rfl) pa_nil))) pa_nil)) (by rfl))
      (pss_cons (ps_par (i := 9) (j := 10) (by rfl) sc_spoiled.nd rfl rfl (by decide) rfl rfl (pa_cons (C8.pe_c C_draw hr (by decide) rfl (pa_cons (pv 0) (pa_cons (pe_op op_add (pe_callB call_len (by rfl) T.z_len PySem.boot_len (pa_cons (pe_ix ix_list (pv 1) (pv 4) (fun _ _ => rfl)) pa_nil)) pe_int) pa_nil))) (pa_cons (pe_ix ix_list (pv 1) (pv 4) (fun _ _ => rfl)) pa_nil)) (by rfl))
      (C8.pss_cut (ps_if (pt_cmpR op_lt (pv 3) pe_int (nomark _))
      (pss_one (ps_set (i := 10) sc_spoiled.nd rfl (Or.inl rfl) (pe_join pe_str (pe_op op_cat (pe_op op_cat (pe_slice sl_list (pv 5) po_none (po_some (pv 7))) (pe_lst (pa_cons (pv 6) pa_nil))) (pe_slice sl_list (pv 5) (po_some (pv 7)) po_none)))))
      (pss_one (ps_if (pt_cmpR op_lt (pv 3) pe_int (nomark _))
      (pss_one (ps_set (i := 10) sc_spoiled.nd rfl (Or.inl rfl) (pe_join pe_str (pe_op op_cat (pe_op op_cat (pe_slice sl_list (pv 5) po_none (po_some (pv 7))) (pe_lst (pa_cons (pv 6) pa_nil))) (pe_slice sl_list (pv 5) (po_some (pe_op op_add (pv 7) pe_int)) po_none)))))
      (pss_one (ps_if (pt_cmpR op_lt (pv 3) pe_int (nomark _))
      (pss_one (ps_set (i := 10) sc_spoiled.nd rfl (Or.inl rfl) (pe_join pe_str (pe_op op_cat (pe_slice sl_list (pv 5) po_none (po_some (pv 7))) (pe_slice sl_list (pv 5) (po_some (pe_op op_add (pv 7) pe_int)) po_none)))))
      (pss_one (ps_if (pt_cmpR op_lt (pv 3) pe_int (nomark _))
      (pss_one (ps_set (i := 10) sc_spoiled.nd rfl (Or.inl rfl) (pe_op op_add_str (pe_op op_add_str (pe_slice C8.sl_txt (pv 10) po_none (po_some (pv 9))) (pv 8)) (pe_slice C8.sl_txt (pv 10) (po_some (pe_op op_sub (pe_op op_add (pv 9) (pv 3)) pe_int)) po_none))))
      (pss_one (ps_if (pt_cmpR op_gt (pv 3) pe_int (nomark _))
      (pss_one (ps_ret (pe_op op_cat (pe_op op_cat (pe_slice sl_list (pv 1) po_none (po_some (pe_op op_sub (pe_op op_add (pv 4) (pv 3)) pe_int))) (pe_lst (pa_cons pe_str pa_nil))) (pe_slice sl_list (pv 1) (po_some (pe_op op_sub (pe_op op_add (pv 4) (pv 3)) pe_int)) po_none))))
      (pss_one (ps_ret (pe_op op_cat (pe_op op_cat (pe_slice sl_list (pv 1) po_none (po_some (pv 4))) (pe_lst (pa_cons (pv 10) pa_nil))) (pe_slice sl_list (pv 1) (po_some (pv 4)) po_none)))))))))))))
      (pss_one (ps_ret (pe_op op_cat (pe_op op_cat (pe_slice sl_list (pv 1) po_none (po_some (pv 4))) (pe_lst (pa_cons (pv 10) pa_nil))) (pe_slice sl_list (pv 1) (po_some (pe_op op_add (pv 4) pe_int)) po_none))))))))), ?_⟩

  obtain ⟨p, c, a, b, m, n, ls, ms, rfl, hp, hm, ha, hb, ms1, ms2, l1, l2, hn, l3, q⟩ := h
  refine ⟨_, rfl, p, c, m, 11, rfl, hp, by omega, by decide, by decide, fun H1 way k1 p1 hw => ?_⟩
  refine ⟨_, rfl, _, rfl, _, ls.length, rfl, .inl ⟨_, SqL.of (k1.lst ha), (List.length_map ..).symm⟩, p, c, m + 1, ls.length, rfl, p1, by omega, by omega, by omega, fun H2 k k2 p2 hk => ⟨_, _, rfl, ?_⟩⟩
  have k02 := k1.trans k2
  have ha2 := k02.lst ha
  have gl : GoodS n ls[k] := l3 _ (List.getElem_mem _)
  obtain ⟨b1, b2, b3⟩ := spS_bnd ls[k]
  generalize el : ls[k] = l at gl b1 b2 b3
  have atk : ∀ {H' : Hp}, atI (ls.map V.str) ((k : Nat) : Int) = some (.str l) := fun {_} => by rw [← el]; exact at_strs hk
  refine ⟨_, rfl, _, rfl, a, _, _, _, rfl, rfl, SqL.of ha2, atk (H' := H), ⟨_, rfl⟩, _, _, rfl, rfl, by decide +kernel, szB (by have := gl.1; omega), fun W hW => ?_⟩
  refine ⟨_, rfl, _, rfl, b, ms, rfl, ((Ks.new1 hW _).lst (k02.lst hb)), ms1, ms2, fun H3 O zs s3 hO z1 z2 z3 => ?_⟩
  have k03 := (k02.new hW (.lst ((spS l).map V.str))).trans (Ks.of s3)
  have hW3 : H3 W = some (.lst ((spS l).map V.str)) := s3 _ _ upd_same
  refine ⟨p, c, m + 2, _, rfl, (p2.new hW).same s3, by omega, .inr ⟨O, _, rfl, hO, by rw [List.length_map]; exact z1, by rw [List.length_map]; omega, fun H4 v k4 p4 hv => ⟨_, _, rfl, ?_⟩⟩⟩
  obtain ⟨w, hw', rfl⟩ := List.mem_map.mp hv
  have gw := z3 w hw'
  have hW4 := k4.lst hW3
  refine ⟨_, rfl, _, rfl, _, (spS l).length, rfl, .inl ⟨_, SqL.of hW4, (List.length_map ..).symm⟩, _, _, rfl, rfl, p, c, m + 3, (spS l).length + 1, rfl, p4, by omega, by omega, by have := gl.1; omega, fun H5 j k5 p5 hj => ?_⟩
  refine ⟨_, rfl, rfl, fun H6 A sg s6 hA0 hsg hA => ⟨p, c, m + 4, _, rfl, p5.same s6, by omega, .inr ⟨A, _, rfl, hA, by rw [List.length_map]; exact hsg.1, by rw [List.length_map]; have := hsg.2.1; omega, fun H7 v k7 p7 hv => ⟨_, _, rfl, ?_⟩⟩⟩⟩
  have s6' := Ks.of s6
  obtain ⟨sc, hsc, rfl⟩ := List.mem_map.mp hv
  have k07 : Ks H H7 := ((k03.trans k4).trans k5).trans (s6'.trans k7)
  have ha7 := k07.lst ha
  have hW7 : H7 W = some (.lst ((spS l).map V.str)) := (k5.trans (s6'.trans k7)).lst hW4
  refine ⟨_, rfl, _, rfl, _, rfl, a, _, _, _, rfl, rfl, SqL.of ha7, atk (H' := H), _, l.length, rfl, ⟨szB (by have := gl.1; omega), rfl⟩, _, _, rfl, rfl, p, c, m + 5, l.length + 1, rfl, p7, by omega, by omega, by have := gl.1; omega, fun H8 pl k8 p8 hpl => ?_⟩
  have ha8 := k8.lst ha7
  have hW8 := k8.lst hW7
  have k08 := k07.trans k8
  refine ⟨_, rfl, _, rfl, a, _, _, _, rfl, rfl, SqL.of ha8, atk (H' := H), _, _, rfl, ?_⟩
  have okl : OkC l := gl.2
  have okw : ∀ x ∈ [w], OkC x := fun x hx => by rw [List.mem_singleton.mp hx]; exact gw.2
  have oks := spS_ok okl
  have fs := fl_spS l
  have gln := gl.1
  have gwn := gw.1
  refine ⟨fun σ' H' => ∃ ln, GoodS (n + 20) ln ∧ σ' = [some (.ref p), some (.ref a), some (.ref b), some (.int (way : Int)), some (.int (k : Int)), some (.ref W), some (.str w), some (.int (j : Int)), some (one sc), some (.int (pl : Int)), some (.str ln)] ∧ Ks H H' ∧ PenAt H' p c (m + 6), ?_, ?_⟩
  · have lt : ∀ i, ((spS l).take i).length ≤ 501 := fun i => by rw [List.length_take]; omega
    have ld : ∀ i, ((spS l).drop i).length ≤ 501 := fun i => by rw [List.length_drop]; omega
    have lst : ∀ i, (ls.take i).length ≤ 50 := fun i => by rw [List.length_take]; omega
    have lsd : ∀ i, (ls.drop i).length ≤ 50 := fun i => by rw [List.length_drop]; omega
    have jb : ∀ {xs : List Str}, fl xs ≤ n + 20 → (xs.map (·.length)).sum + xs.length * (" " : Str).length ≤ 16777216 := fun {xs} hf => by
      have := fl_eq xs
      rw [show (" " : Str).length = 1 by decide +kernel]
      omega
    have kp : ∀ {H' : Hp}, Same H8 H' → Ks H H' ∧ PenAt H' p c (m + 6) := fun s => ⟨k08.trans (Ks.of s), p8.same s⟩
    have f1 := fl_cut (spS l) j
    have f2 := fl_drop1 (spS l) j
    have fw1 : fl [w] = w.length + 1 := rfl
    refine ⟨_, rfl, _, _, rfl, rfl, _, rfl, ?_⟩
    by_cases w2 : way < 2
    · refine ify (decide_eq_true (by omega)) ⟨⟨_, rfl⟩, _, rfl, _, rfl, _, rfl, slL_to j rfl hW8 fun S1 H9 s9 h9 => ⟨_, rfl, szB (n := 1) (by decide), fun S2 hS2 => catS (same1 hS2 _ _ _ h9) (upd_same (o := .lst (([w] : List Str).map V.str))) (by have := lt j; simp only [List.length_singleton]; omega) fun S3 H11 s11 h11 => ⟨_, rfl, _, rfl, _, rfl, slL_from j rfl (s11 _ _ (same1 hS2 _ _ _ (s9 _ _ hW8))) fun S4 H12 s12 h12 => catS (s12 _ _ h11) h12 (by have := lt j; have := ld j; rw [List.length_append, List.length_singleton]; omega) fun S5 H13 s13 h13 => ?_⟩⟩⟩
      have sa := st (st (st (st s9 (same1 hS2 _)) s11) s12) s13
      have hf : fl ((spS l).take j ++ [w] ++ (spS l).drop j) ≤ n + 20 := by rw [fl_app, fl_app, fw1]; omega
      exact ⟨_, S5, _, rfl, rfl, .inl (SqL.of h13), jb hf, _, good_join (ok_cat3 oks okw) hf, rfl, kp sa⟩
    refine ifn (decide_eq_false (by omega)) ⟨_, rfl, _, _, rfl, rfl, _, rfl, ?_⟩
    by_cases w4 : way < 4
    · refine ify (decide_eq_true (by omega)) ⟨⟨_, rfl⟩, _, rfl, _, rfl, _, rfl, slL_to j rfl hW8 fun S1 H9 s9 h9 => ⟨_, rfl, szB (n := 1) (by decide), fun S2 hS2 => catS (same1 hS2 _ _ _ h9) (upd_same (o := .lst (([w] : List Str).map V.str))) (by have := lt j; simp only [List.length_singleton]; omega) fun S3 H11 s11 h11 => ⟨_, rfl, _, rfl, _, _, rfl, rfl, _, rfl, slL_from (j + 1) (by omega) (s11 _ _ (same1 hS2 _ _ _ (s9 _ _ hW8))) fun S4 H12 s12 h12 => catS (s12 _ _ h11) h12 (by have := lt j; have := ld (j + 1); rw [List.length_append, List.length_singleton]; omega) fun S5 H13 s13 h13 => ?_⟩⟩⟩
      have sa := st (st (st (st s9 (same1 hS2 _)) s11) s12) s13
      have hf : fl ((spS l).take j ++ [w] ++ (spS l).drop (j + 1)) ≤ n + 20 := by rw [fl_app, fl_app, fw1]; omega
      exact ⟨_, S5, _, rfl, rfl, .inl (SqL.of h13), jb hf, _, good_join (ok_cat3 oks okw) hf, rfl, kp sa⟩
    refine ifn (decide_eq_false (by omega)) ⟨_, rfl, _, _, rfl, rfl, _, rfl, ?_⟩
    by_cases w6 : way < 6
    · refine ify (decide_eq_true (by omega)) ⟨⟨_, rfl⟩, _, rfl, _, rfl, _, rfl, slL_to j rfl hW8 fun S1 H9 s9 h9 => ⟨_, rfl, _, rfl, _, _, rfl, rfl, _, rfl, slL_from (j + 1) (by omega) (s9 _ _ hW8) fun S4 H12 s12 h12 => catS (s12 _ _ h9) h12 (by have := lt j; have := ld (j + 1); omega) fun S5 H13 s13 h13 => ?_⟩⟩
      have sa := st (st s9 s12) s13
      have hf : fl ((spS l).take j ++ (spS l).drop (j + 1)) ≤ n + 20 := by rw [fl_app]; omega
      exact ⟨_, S5, _, rfl, rfl, .inl (SqL.of h13), jb hf, _, good_join (fun x hx => (List.mem_append.mp hx).elim (fun z => oks x (List.mem_of_mem_take z)) fun z => oks x (List.mem_of_mem_drop z)) hf, rfl, kp sa⟩
    refine ifn (decide_eq_false (by omega)) ⟨_, rfl, _, _, rfl, rfl, _, rfl, ?_⟩
    by_cases w8 : way < 8
    · refine ify (decide_eq_true (by omega)) ?_
      obtain ⟨t, rfl⟩ : ∃ t, l = S t := ⟨TL.tl l, (S_tl l).symm⟩
      have e1 : Txt.slice (S t) none (some (pl : Int)) = S (t.take pl) := slice_to (by omega)
      have e2 : Txt.slice (S t) (some ((pl : Int) + (way : Int) - 6)) none = S (t.drop (pl + way - 6)) := by
        rw [slice_from (by omega)]
        congr 2; omega
      rw [S_len] at gln
      have x1 : (t.take pl).length ≤ 500 := by rw [List.length_take]; omega
      have x2 : (t.drop (pl + way - 6)).length ≤ 500 := by rw [List.length_drop]; omega
      refine ⟨_, rfl, _, rfl, _, rfl, _, rfl, szB (by rw [S_len]; omega), _, rfl, _, _, rfl, rfl, szB (by rw [e1, S_len]; show _ + 1 ≤ _; omega), _, rfl, _, rfl, _, rfl, _, _, rfl, rfl, _, _, rfl, rfl, _, rfl, _, rfl, szB (by rw [S_len]; omega), _, _, rfl, rfl, ?_⟩
      rw [e1, e2, S_cat, S_cat]
      refine ⟨szB ?_, _, ⟨?_, fun c hc => ?_⟩, rfl, k08, p8⟩
      · rw [S_len, S_len, List.length_append]; show _ + 1 + _ ≤ _; omega
      · rw [S_len, List.length_append, List.length_append, List.length_take, List.length_drop]; show _ + 1 + _ ≤ _; omega
      · rw [TL.tl_mk] at hc
        have okt : ∀ x ∈ t, x ≠ 10 ∧ x < 1000 := fun x hx => okl x (by rw [TL.tl_mk]; exact hx)
        rcases List.mem_append.mp hc with z | z
        · rcases List.mem_append.mp z with z | z
          · exact okt c (List.mem_of_mem_take z)
          · rw [List.mem_singleton.mp z]; exact hsg.2.2 sc hsc
        · exact okt c (List.mem_of_mem_drop z)
    refine ifn (decide_eq_false (by omega)) ⟨_, rfl, _, _, rfl, rfl, _, rfl, ?_⟩
    by_cases w9 : 8 < way
    · refine ify (decide_eq_true (by omega)) ⟨_, rfl, _, rfl, _, rfl, _, _, rfl, rfl, _, _, rfl, rfl, _, rfl, slL_to (k + way - 9) (by omega) ha8 fun S1 H9 s9 h9 => ⟨szB (n := 1) (by decide), fun S2 hS2 => catS (same1 hS2 _ _ _ h9) (upd_same (o := .lst (([""] : List Str).map V.str))) (by have := lst (k + way - 9); simp only [List.length_singleton]; omega) fun S3 H11 s11 h11 => ⟨_, rfl, _, rfl, _, rfl, _, _, rfl, rfl, _, _, rfl, rfl, _, rfl, slL_from (k + way - 9) (by omega) (s11 _ _ (same1 hS2 _ _ _ (s9 _ _ ha8))) fun S4 H12 s12 h12 => catS (s12 _ _ h11) h12 (by have := lst (k + way - 9); have := lsd (k + way - 9); rw [List.length_append, List.length_singleton]; omega) fun S5 H13 s13 h13 => ?_⟩⟩⟩
      have sa := st (st (st (st s9 (same1 hS2 _)) s11) s12) s13
      refine q H13 S5 _ (kp sa).1 ((kp sa).2.mono (by omega)) h13 ?_ ?_ fun z hz => ?_
      · rw [List.length_append, List.length_append, List.length_singleton]; omega
      · rw [List.length_append, List.length_append, List.length_singleton, List.length_take, List.length_drop]; omega
      · rcases List.mem_append.mp hz with y | y
        · rcases List.mem_append.mp y with y | y
          · exact (l3 z (List.mem_of_mem_take y)).mono (by omega)
          · rw [List.mem_singleton.mp y]; exact ⟨Nat.zero_le _, fun c hc => nomatch hc⟩
        · exact (l3 z (List.mem_of_mem_drop y)).mono (by omega)
    · refine ifn (decide_eq_false (by omega)) ⟨_, rfl, _, rfl, _, rfl, slL_to k rfl ha8 fun S1 H9 s9 h9 => ⟨_, rfl, szB (n := 1) (by decide), fun S2 hS2 => catS (same1 hS2 _ _ _ h9) (upd_same (o := .lst (([l] : List Str).map V.str))) (by have := lst k; simp only [List.length_singleton]; omega) fun S3 H11 s11 h11 => ⟨_, rfl, _, rfl, _, rfl, slL_from k rfl (s11 _ _ (same1 hS2 _ _ _ (s9 _ _ ha8))) fun S4 H12 s12 h12 => catS (s12 _ _ h11) h12 (by have := lst k; have := lsd k; rw [List.length_append, List.length_singleton]; omega) fun S5 H13 s13 h13 => ?_⟩⟩⟩
      have sa := st (st (st (st s9 (same1 hS2 _)) s11) s12) s13
      refine q H13 S5 _ (kp sa).1 ((kp sa).2.mono (by omega)) h13 ?_ ?_ fun z hz => ?_
      · rw [List.length_append, List.length_append, List.length_singleton]; omega
      · rw [List.length_append, List.length_append, List.length_singleton, List.length_take, List.length_drop]; omega
      · rcases List.mem_append.mp hz with y | y
        · rcases List.mem_append.mp y with y | y
          · exact (l3 z (List.mem_of_mem_take y)).mono (by omega)
          · rw [List.mem_singleton.mp y]; exact gl.mono (by omega)
        · exact (l3 z (List.mem_of_mem_drop y)).mono (by omega)
  · rintro σ' H14 ⟨ln, gln2, rfl, k14, p14⟩
    have lst : ∀ i, (ls.take i).length ≤ 50 := fun i => by rw [List.length_take]; omega
    have lsd : ∀ i, (ls.drop i).length ≤ 50 := fun i => by rw [List.length_drop]; omega
    have ha8 := k14.lst ha
    have kp : ∀ {H' : Hp}, Same H14 H' → Ks H H' ∧ PenAt H' p c (m + 6) := fun s => ⟨k14.trans (Ks.of s), p14.same s⟩
    refine ⟨_, rfl, _, rfl, _, rfl, slL_to k rfl ha8 fun S1 H9 s9 h9 => ⟨_, rfl, szB (n := 1) (by decide), fun S2 hS2 => catS (same1 hS2 _ _ _ h9) (upd_same (o := .lst (([ln] : List Str).map V.str))) (by have := lst k; simp only [List.length_singleton]; omega) fun S3 H11 s11 h11 => ⟨_, rfl, _, rfl, _, _, rfl, rfl, _, rfl, slL_from (k + 1) (by omega) (s11 _ _ (same1 hS2 _ _ _ (s9 _ _ ha8))) fun S4 H12 s12 h12 => catS (s12 _ _ h11) h12 (by have := lst k; have := lsd (k + 1); rw [List.length_append, List.length_singleton]; omega) fun S5 H13 s13 h13 => ?_⟩⟩⟩
    have sa := st (st (st (st s9 (same1 hS2 _)) s11) s12) s13
    refine q H13 S5 _ (kp sa).1 ((kp sa).2.mono (by omega)) h13 ?_ ?_ fun z hz => ?_
    · rw [List.length_append, List.length_append, List.length_singleton]; omega
    · rw [List.length_append, List.length_append, List.length_singleton, List.length_take, List.length_drop]; omega
    · rcases List.mem_append.mp hz with y | y
      · rcases List.mem_append.mp y with y | y
        · exact (l3 z (List.mem_of_mem_take y)).mono (by omega)
        · rw [List.mem_singleton.mp y]; exact gln2
      · exact (l3 z (List.mem_of_mem_drop y)).mono (by omega)

end
end Vf

set_option maxRecDepth 100000
set_option maxHeartbeats 4000000
namespace Vf
open PySem PySem.Spec PyProof.Rows L2 SX
section
variable {P : Program} {w : World} {K : PySem.W.Frag} {mg : Str → Option Value} {base : Heap}
theorem other_ok : (Str.ofString "quote ? to ~ escape |").length ≤ 100000 ∧ LnOk (lnsOf (Str.ofString "quote ? to ~ escape |")) ∧ fw (lnsOf (Str.ofString "quote ? to ~ escape |")) = none := by
  have e : lnsOf (Str.ofString "quote ? to ~ escape |") = [Str.ofString "quote ? to ~ escape |"] := by decide +kernel
  refine ⟨by decide +kernel, ?_, by decide +kernel⟩
  rw [e]
  refine ⟨by decide, fun l hl => ?_⟩
  rw [List.mem_singleton.mp hl]
  exact ⟨by decide +kernel, by decide +kernel⟩
theorem ok_toldTongue {f : Addr} {fd : FuncData} {CR CD CG CT CW CN P0 : Addr} (F : C8.Def K mg "_law_told_tongue" s_toldTongue f fd) (b : Binds K fd ["_law_text", "_law_lines"] []) (T : Tx K w mg) (ES : Es P w K mg base CT CW CN) (CX_Tongue : MakX P w K mg base 7 "Tongue" CG (sp_Tongue_init CG CT P0)) (EQ : Eqc P w K mg base 1 CG (EqG CG)) (IT : OitC P w K mg base 1 CG "rules") (LN : LenC P w K mg base 1 CG (sp_Tongue_len CG)) (A0 : Ca K CR CD CG) : CalG P w K mg base 9 "_law_told_tongue" (sp_toldTongue K P0) := by
  refine calG F b sc_toldTongue (fun vs H Q E h => ?_) (fun cdv A outer s H vs Q E hr hgd h => ?_)
  · obtain ⟨t, a, rfl, _⟩ := h; rfl
  have hu := hu_of hr
  have hu64 := hr.units
  refine ⟨_, (pss_cons (ps_asg (pe_tup (pa_cons pe_non (pa_cons pe_non (pa_cons pe_str pa_nil)))) (pg_tup (by rfl) (pgs_cons (pg_name (i := 2) sc_toldTongue.nd rfl (Or.inl rfl)) (pgs_cons (pg_name (i := 3) sc_toldTongue.nd rfl (Or.inl rfl)) (pgs_cons (pg_name (i := 4) sc_toldTongue.nd rfl (Or.inl rfl)) pgs_nil)))))
      (pss_cons (ps_try_as (i := 5) rfl rfl sc_toldTongue.nd rfl rfl ⟨rfl, by decide, .inl ES.r_BadText.rc.g⟩ takes0 (fun W pn xe tk _ => (pss_one (ps_set (i := 3) sc_toldTongue.nd rfl (Or.inl rfl) (pe_mkX CX_Tongue hr (by decide) rfl tk (pa_cons (pv 0) pa_nil)))))
      (fun a oe cls d pn hz hf => (pss_one (ps_set (i := 2) sc_toldTongue.nd rfl (Or.inl rfl) (pe_tup (pa_cons (pe_xf (ES.r_BadText.rc.x) (ES.r_BadText.no "line" (by simp)) hz hf (pv 5)) (pa_cons (pe_xf (ES.r_BadText.rc.x) (ES.r_BadText.no "column" (by simp)) hz hf (pv 5)) (pa_cons (pe_callB (call_isE2 hz hf) (by rfl) T.z_isinstance (by decide +kernel) (pa_cons (pv 5) (pa_cons (pe_cls (ES.g_WorkshopError) rfl) pa_nil))) (pa_cons (pe_callB (call_isE2 hz hf) (by rfl) T.z_isinstance (by decide +kernel) (pa_cons (pv 5) (pa_cons (pe_bltn (v := .ty "ValueError") (by rfl) T.z_ValueError (by decide +kernel) rfl) pa_nil))) (pa_cons (pe_callB (call_isE2 hz hf) (by rfl) T.z_isinstance (by decide +kernel) (pa_cons (pv 5) (pa_cons (pe_cls (ES.g_BadNumber) rfl) pa_nil))) pa_nil))))))))))
      (pss_cons (ps_if (pt_cmpR op_notN (pv 2) pe_non (nomark _))
      (pss_one (ps_ret (pe_ifExp (pt_cmpR (op_eqD hr.units) (pe_slice sl_tupA (pv 2) (po_some pe_int) po_none) (pe_tup (pa_cons pe_bl (pa_cons pe_bl (pa_cons pe_bl pa_nil)))) (nomark _)) (pe_slice sl_tupA (pv 2) po_none (po_some pe_int)) pe_str)))
      pss_nil)
      (C8.pss_cut (ps_if (PW.pt (pw_or (pt_cmpR op_ne (pe_callB (cr_alt (call_reprD hgd hu64) call_reprS) (by rfl) T.z_repr (by decide +kernel) (pa_cons (pe_fld (pv 3) rfl) pa_nil)) (pe_callB (cr_alt (call_reprD hgd hu64) call_reprS) (by rfl) T.z_repr (by decide +kernel) (pa_cons (pe_callTy call_tuple_of (by rfl) T.z_tuple (by decide +kernel) (pa_cons (pv 1) pa_nil)) pa_nil)) (nomark _)) (pw_or (pt_cmpR (op_neD hr.units) (pe_lc (own := [("_law_line", 7)]) (g := (gName 7)) (tt := tYes) rfl sc_toldTongue.nd (pi_oit IT hr (by decide) (pv 3)) (blkOk_by (N := N_toldTongue) (sc := C8.fnScope s_toldTongue) (by decide +kernel)) (fun _ _ _ _ _ => pg_name (i := 7) sc_toldTongue.nd rfl (Or.inl rfl)) (fun _ _ _ _ _ => pts_nil) (fun _ _ _ _ _ => (pv 7))) (pv 1) (nomark _)) (pw_or1 (pt_cmpR op_ne (pe_fld (pv 3) rfl) (pv 0) (nomark _))))))
      (pss_one (ps_ret pe_str))
      pss_nil)
      (pss_cons (ps_set (i := 6) sc_toldTongue.nd rfl (Or.inl rfl) (pe_and (pe_cmpR (op_eqC EQ hr (by decide)) (pv 3) (pe_mkX0 CX_Tongue hr (by decide) rfl (pa_cons (pv 0) pa_nil)) (nomark _)) (pe_one (pe_cmpR op_eq (pe_cmpR (op_eqC EQ hr (by decide)) (pv 3) (pe_mkX0 CX_Tongue hr (by decide) rfl (pa_cons (pv 4) pa_nil)) (nomark _)) (pe_cmpR op_eq (pv 0) (pv 4) (nomark _)) (nomark _)))))
      (pss_one (ps_ret (pe_ifExp (PW.pt (pw_and (pt_val (pv 6)) (pw_and1 (pt_cmpR op_eq (pe_callB (call_lenC LN hr (by decide)) (by rfl) T.z_len PySem.boot_len (pa_cons (pv 3) pa_nil)) (pe_callB call_len (by rfl) T.z_len PySem.boot_len (pa_cons (pv 1) pa_nil)) (nomark _))))) pe_non pe_str)))))))), ?_⟩

  obtain ⟨t, a, rfl, ha, ht, lo, tb, q⟩ := h
  have clG := A0.iG.cl
  refine ⟨sz_3, fun t0 ht0 => ⟨t0, _, rfl, SqT.of upd_same, rfl, _, _, rfl, _, _, rfl, _, _, rfl, rfl, ?_⟩⟩
  have s0 := same1 ht0 (.tup [.non, .non, .str (Str.ofString "quote ? to ~ escape |")])
  have ha0 := sqL_same s0 ha
  have tb0 := tb.ext s0
  have ext0 : LamX.ExtN H _ := extN_same s0
  generalize upd H t0 (.tup [.non, .non, .str (Str.ofString "quote ? to ~ escape |")]) = H0 at s0 ha0 tb0 ext0 ⊢
  refine ⟨_, rfl, fun x dx hx hdx ne => ?_⟩
  have sx1 := same1 hdx (.own x)
  have hx1 : (upd H0 dx (.own x)) x = none := by rw [upd_ne ne.symm]; exact hx
  have sx := same_new sx1 hx1 (.ins CG dx [])
  have nx : ∀ {c o}, H0 c = some o → c ≠ x := fun z => ne_of_none z hx
  refine ⟨x, dx, t, rfl, upd_same, ht, lo, tb0.ext sx, fun e0 H1 x1 tb1 tg => ⟨rfl, ?_⟩, fun p ep d H1 s1 hd => ?_⟩
  case refine_2 =>
    refine ⟨true, ES.ex, fun _ b hb => ?_, fun z => nomatch z⟩
    refine ⟨_, rfl, rfl, rfl, d, _, _, rfl, hd, rfl, _, rfl, rfl, rfl, d, _, _, rfl, hd, rfl, ?_⟩
    refine ⟨_, rfl, CT, d, _, _, _, true, rfl, rfl, hd, rfl, ES.ec, (fun u z => z), ES.tw, ?_⟩
    refine ⟨_, rfl, CT, d, _, _, _, true, rfl, rfl, hd, rfl, ES.ec, (fun u z => z), ES.tv, ?_⟩
    refine ⟨_, rfl, CT, d, _, _, _, false, rfl, rfl, hd, rfl, ES.ec, (fun u z => z), ES.tn, szB (by show 5 ≤ 1000000; decide), fun t1 ht1 => ?_⟩
    have s1' := same_new s1 ht1 (.tup [.int (p.1 : Int), .int (p.2 : Int), .bl true, .bl true, .bl false])
    have g1 : (upd H1 t1 (.tup [.int (p.1 : Int), .int (p.2 : Int), .bl true, .bl true, .bl false])) t1 = some (.tup [.int (p.1 : Int), .int (p.2 : Int), .bl true, .bl true, .bl false]) := upd_same
    have sH : Same H0 (upd H1 t1 (.tup [.int (p.1 : Int), .int (p.2 : Int), .bl true, .bl true, .bl false])) := fun c o z => s1' _ _ (sx _ _ z)
    generalize upd H1 t1 (.tup [.int (p.1 : Int), .int (p.2 : Int), .bl true, .bl true, .bl false]) = H2 at g1 sH ⊢
    refine ⟨_, rfl, rfl, _, rfl, ?_⟩
    refine ifT ⟨_, rfl, 2, rfl, ?_⟩
    dsimp only [tNoPart]
    refine slT_from 2 (SqT.of g1) fun b2 H3 s3 hb2 => ⟨sz_3, fun t2 ht2 => ?_⟩
    have s4 := same_new s3 ht2 (.tup [.bl true, .bl true, .bl false])
    refine ⟨.tuple [.bool true, .bool true, .bool false], .tuple [.bool true, .bool true, .bool false], .tup (sqT_same (same1 ht2 _) hb2) (.cons (.bl _) (.cons (.bl _) (.cons (.bl _) .nil))), .tup (SqT.of upd_same) (.cons (.bl _) (.cons (.bl _) (.cons (.bl _) .nil))), by decide +kernel, by decide +kernel, _, rfl, ?_⟩
    refine ify (by decide +kernel) ⟨_, rfl, ?_⟩
    dsimp only [tNoPart]
    refine ⟨2, rfl, t1, _, rfl, SqT.of (s4 _ _ g1), fun w => absurd (show HT.sIx 5 5 (some 2) = 5 from w.2) (by decide), fun _ l hl => ?_⟩
    have s5 := same_new (fun c o z => s4 _ _ (sH c o z) : Same H0 _) hl (.tup (cutV [.int (p.1 : Int), .int (p.2 : Int), .bl true, .bl true, .bl false] none (some 2)))
    refine q _ _ (fun c o z n => s5 _ _ (s0 _ _ z)) (tb0.ext s5) ?_
    rw [ep]
    exact ⟨l, rfl, upd_same⟩
  case refine_1 =>
    have ext1 : LamX.ExtN H0 H1 := fun c o z n => x1 c o (nx z) (sx _ _ z) n
    have ha1 : SqL K H1 a ((lnsOf t).map V.str) := sqL_ext ha0 ext1
    obtain ⟨dx', rt, wi, rd, tg1, tg2⟩ := tg
    have eH : LamX.ExtN H H1 := fun c o z n => ext1 c o (s0 _ _ z) n
    refine ⟨_, rfl, rfl, _, rfl, ?_⟩
    refine ifF ?_
    obtain ⟨p1, p2, p3, p4⟩ := strs_shown lo
    obtain ⟨y1, y2⟩ := strs_list fun l hl => (lo.2 l hl).ch
    refine ⟨fun σ' H' => σ' = [some (.str t), some (.ref a), some .non, some (.ref x), some (.str (Str.ofString "quote ? to ~ escape |")), none, none, none] ∧ Same H1 H', ?_, ?_⟩
    · refine ⟨_, rfl, x, CG, dx', _, _, rfl, tg1, clG, A0.g2, rfl, .inl ⟨rt, _, rfl, .tup (SqT.of tg2) (strs_dp _), p1, p2, p3, p4, ?_⟩⟩
      refine ⟨_, rfl, a, _, rfl, .inl ⟨ha1, fun l hl => ?_⟩⟩
      have s2 := same1 hl (.tup ((lnsOf t).map V.str))
      refine .inl ⟨l, _, rfl, .tup (SqT.of upd_same) (strs_dp _), p1, p2, p3, p4, rfl, _, rfl, ifn (by rw [decide_eq_true rfl]; rfl) ?_⟩
      refine ⟨_, rfl, x, dx', rt, _, _, rfl, s2 _ _ tg1, rfl, SqT.of (s2 _ _ tg2), fun D hD => ?_⟩
      refine lc_it walk_tup (fun i H' => H' D = some (.lst (((lnsOf t).take i).map V.str)) ∧ Same H1 H') ⟨upd_same, same_new s2 hD _⟩ (fun i H' _ z => SqT.of (z.2 _ _ tg2)) ?_ ?_
      · rintro i v H2 H3 hi ⟨d1, d2⟩ ⟨rfl, hv⟩
        rw [List.getElem?_map] at hv
        obtain ⟨l', hl', rfl⟩ := Option.map_eq_some_iff.mp hv
        refine ⟨rfl, ?_⟩
        dsimp only [tYes]
        rw [if_pos rfl]
        have hlen := lo.1
        refine ⟨_, rfl, _, d1, szL (by rw [List.length_map, List.length_take]; omega), ?_, fun c o z => ?_⟩
        · rw [upd_same, List.take_add_one, hl', List.map_append]; rfl
        · rw [upd_ne (ne_of_none (s2 _ _ z) hD)]; exact d2 c o z
      · rintro H2 ⟨d1, d2⟩
        rw [List.length_map, List.take_length] at d1
        have ha2 := sqL_same d2 ha1
        refine ⟨_, rfl, .list ((lnsOf t).map PyData.str), .list ((lnsOf t).map PyData.str), .lst (SqL.of d1) (strs_dp _), .lst ha2 (strs_dp _), y1, y1, _, rfl, ifn (by rw [y2]; rfl) ?_⟩
        refine ⟨_, rfl, x, CG, dx', _, _, rfl, d2 _ _ tg1, clG, A0.g1, rfl, _, rfl, rfl, _, rfl, ifn (by rw [decide_eq_true rfl]; rfl) ⟨rfl, d2⟩⟩
    rintro σ' H2 ⟨rfl, s2⟩
    have tb2 := tb1.ext s2
    have tgA : ∀ {H' : Hp}, LamX.ExtN H1 H' → TgAt CG H' x t := fun e => ⟨dx', rt, wi, rd, e _ _ tg1 (fun _ z => nomatch z), e _ _ tg2 (fun _ z => nomatch z)⟩
    have e12 : LamX.ExtN H1 H2 := extN_same s2
    -- a tongue made again
    refine ⟨_, rfl, _, rfl, fun x2 dx2 hx2 hdx2 ne2 => ?_⟩
    have sm2 := same_new (same1 hdx2 (.own x2)) (by rw [upd_ne ne2.symm]; exact hx2) (.ins CG dx2 [])
    refine ⟨x2, dx2, t, rfl, upd_same, ht, lo, tb2.ext sm2, fun _ H3 xx3 tb3 tg3 => ⟨rfl, ?_⟩, fun p ep => by rw [e0] at ep; cases ep⟩
    have e13 : LamX.ExtN H1 H3 := fun c o z n => xx3 c o (ne_of_none (s2 _ _ z) hx2) (sm2 _ _ (s2 _ _ z)) n
    have tgx := tgA e13
    obtain ⟨da, ra, wa, rda, u1, u2⟩ := tgx
    obtain ⟨db, rb, wb, rdb, u3, u4⟩ := tg3
    refine ⟨x, x2, _, da, db, _, _, rfl, rfl, u1, u3, ⟨t, t, ⟨da, ra, wa, rda, u1, u2⟩, ⟨db, rb, wb, rdb, u3, u4⟩, rfl⟩, fun H4 s4 => ?_⟩
    refine ⟨_, rfl, ify (by rw [decide_eq_true rfl]; rfl) ?_⟩
    obtain ⟨o1, o2, o3⟩ := other_ok
    have e14 : LamX.ExtN H1 H4 := fun c o z n => s4 c o (e13 c o z n)
    have tb4 := tb3.ext s4
    refine ⟨_, rfl, _, rfl, fun x3 dx3 hx3 hdx3 ne3 => ?_⟩
    have sm3 := same_new (same1 hdx3 (.own x3)) (by rw [upd_ne ne3.symm]; exact hx3) (.ins CG dx3 [])
    refine ⟨x3, dx3, _, rfl, upd_same, o1, o2, tb4.ext sm3, fun _ H5 xx5 tb5 tg5 => ⟨rfl, ?_⟩, fun p ep => by rw [o3] at ep; cases ep⟩
    have e15 : LamX.ExtN H1 H5 := fun c o z n => xx5 c o (fun y => by rw [y] at z; exact absurd (e14 c o (y ▸ z) n) (by rw [y, hx3]; exact fun q => by cases q)) (sm3 _ _ (e14 c o z n)) n
    obtain ⟨da5, ra5, wa5, rda5, u5, u6⟩ := tgA e15
    obtain ⟨db5, rb5, wb5, rdb5, u7, u8⟩ := tg5
    refine ⟨x, x3, _, da5, db5, _, _, rfl, rfl, u5, u7, ⟨t, _, ⟨da5, ra5, wa5, rda5, u5, u6⟩, ⟨db5, rb5, wb5, rdb5, u7, u8⟩, rfl⟩, fun H6 s6 => ?_⟩
    have e16 : LamX.ExtN H1 H6 := fun c o z n => s6 c o (e15 c o z n)
    have tb6 := tb5.ext s6
    refine ⟨_, rfl, _, rfl, rfl, rfl, ?_⟩
    obtain ⟨da6, ra6, wa6, rda6, u9, u10⟩ := tgA e16
    have hb : decide (V.bl ((decide (t = Str.ofString "quote ? to ~ escape |")) != false) = V.bl (decide (V.str t = V.str (Str.ofString "quote ? to ~ escape |")))) = true := by
      rw [dS, dB]
      cases decide (t = Str.ofString "quote ? to ~ escape |") <;> rfl
    refine ⟨_, rfl, _, rfl, ?_⟩
    refine ify hb ?_
    refine ⟨_, rfl, x, da6, _, rfl, u9, ⟨x, t, rfl, ⟨da6, ra6, wa6, rda6, u9, u10⟩, lo.1, (lnsOf t).length, rfl, by have := lo.1; omega, ?_⟩⟩
    refine ⟨_, rfl, _, (lnsOf t).length, rfl, .inl ⟨_, sqL_ext ha1 e16, (List.length_map ..).symm⟩, rfl, _, rfl, ?_⟩
    rw [decide_eq_true rfl]
    refine ifT ?_
    refine q H6 .non (fun c o z n => e16 c o (eH c o z n) n) tb6 ?_
    rw [e0]
    rfl

end
end Vf

set_option maxRecDepth 100000
set_option maxHeartbeats 4000000
namespace Vf
open PySem PySem.Spec PyProof.Rows L2 SX
section
variable {P : Program} {w : World} {K : PySem.W.Frag} {mg : Str → Option Value} {base : Heap}
theorem ok_Tongue_init {f : Addr} {fd : FuncData} {q : Str} {CR CD CG CT P0 : Addr} (M : Mk K CG f) (gc : mg "Tongue" = some (.ref CG)) (F : C8.Fun K "__init__" q s_Tongue_init f fd) (b : Binds K fd ["self", "text"] []) (T : Tx K w mg) (M_Reader : C8.Mak P w K mg base 5 "Reader" CD (sp_Reader_init K CR CD P0) []) (A0 : Ca K CR CD CG) (C_readRules : CalX P w K mg base 4 "read_rules" (sp_readRules CR CT)) (C_ruleWeight : C8.Cal P w K mg base 1 "rule_weight" (sp_ruleWeight CR) []) : MakX P w K mg base 7 "Tongue" CG (sp_Tongue_init CG CT P0) := by
  refine makX M gc F b sc_Tongue_init (fun vs H Q E h => ?_) (fun cdv A outer s H vs Q E hr h => ?_)
  · obtain ⟨a, dx, t, rfl, _⟩ := h; rfl
  have hu := hu_of hr
  refine ⟨_, (pss_cons (ps_set (i := 2) sc_Tongue_init.nd rfl (Or.inl rfl) (pe_cx C_readRules hr (by decide) rfl (takes_of rfl rfl rfl rfl) (pa_cons (pv 1) pa_nil)))
      (pss_cons (ps_fld (pv 0) (pv 1) rfl)
      (C8.pss_cut (ps_fld (pv 0) (pe_ifExp (pt_truth (pv 1) (by intro _; rfl)) (pe_callTy call_tuple_of (by rfl) T.z_tuple (by decide +kernel) (pa_cons (pe_split (pv 1) pe_str) pa_nil)) (pe_tup pa_nil)) rfl)
      (pss_cons (ps_fld (pv 0) (pe_op op_add pe_int (pe_callB (cr_sum rfl) (by rfl) T.z_sum (by decide +kernel) (pa_cons (pe_lc (own := [("rule", 3)]) (g := (gName 3)) (tt := tYes) rfl sc_Tongue_init.nd (pi_tup (pv 2)) (blkOk_by (N := N_Tongue_init) (sc := C8.fnScope s_Tongue_init) (by decide +kernel)) (fun _ _ _ _ _ => pg_name (i := 3) sc_Tongue_init.nd rfl (Or.inl rfl)) (fun _ _ _ _ _ => pts_nil) (fun _ _ _ _ _ => (C8.pe_c C_ruleWeight hr (by decide) rfl (pa_cons (pv 3) pa_nil)))) pa_nil))) rfl)
      (pss_one (ps_fld (pv 0) (C8.pe_mk M_Reader hr (by decide) rfl (pa_cons (pv 2) pa_nil)) rfl)))))), ?_⟩

  obtain ⟨a, dx, t, rfl, ha, ht, lo, tb, qo, qe⟩ := h
  have clG := A0.iG.cl
  refine ⟨_, rfl, t, rfl, ht, lo, fun e0 H1 b rs s1 hb hz hru => ?_, fun p ep d H1 s1 hd => qe p ep d H1 s1 hd⟩
  have ha1 := s1 _ _ ha
  have tb1 := tb.ext s1
  have neR : ∀ {a' : Addr} {fs : List (Str × V)} {dx' C : Addr}, H1 a' = some (.ins C dx' fs) → fs ≠ [] → a' ≠ a := fun h n z => by
    rw [z, ha1] at h
    cases h
    exact n rfl
  refine ⟨_, rfl, _, rfl, a, CG, dx, _, rfl, ha1, clG, A0.g1, by decide, ?_⟩
  rw [show putF (Str.ofString "text") (V.str t) [] = [(Str.ofString "text", V.str t)] from rfl]
  have nba : b ≠ a := ne_of hb ha1 fun z => nomatch z
  have keep1 : ∀ c o, c ≠ a → H1 c = some o → (upd H1 a (.ins CG dx [("text", .str t)])) c = some o := fun c o n z => by rw [upd_ne n]; exact z
  have ha2 : (upd H1 a (.ins CG dx [("text", .str t)])) a = some (.ins CG dx [("text", .str t)]) := upd_same
  have tb2 : LamX.Tabs (T0 P0) (upd H1 a (.ins CG dx [("text", .str t)])) := tabs_upd tb1 ha1 (fun _ z => nomatch z) fun _ _ z => nomatch z
  generalize upd H1 a (.ins CG dx [("text", .str t)]) = H2 at keep1 ha2 tb2 ⊢
  refine ⟨fun σ' H' => σ' = [some (.ref a), some (.str t), some (.ref b), none] ∧ ∃ rt, H' a = some (.ins CG dx [("text", .str t), ("rules", .ref rt)]) ∧ H' rt = some (.tup ((lnsOf t).map V.str)) ∧ (∀ c o, c ≠ a → H2 c = some o → H' c = some o) ∧ LamX.Tabs (T0 P0) H', ?_, ?_⟩
  · have fin : ∀ (l : Addr) (H3 : Hp), Same H2 H3 → H3 l = some (.tup ((lnsOf t).map V.str)) → ∃ rt, (upd H3 a (.ins CG dx [("text", .str t), ("rules", .ref l)])) a = some (.ins CG dx [("text", .str t), ("rules", .ref rt)]) ∧ (upd H3 a (.ins CG dx [("text", .str t), ("rules", .ref l)])) rt = some (.tup ((lnsOf t).map V.str)) ∧ (∀ c o, c ≠ a → H2 c = some o → (upd H3 a (.ins CG dx [("text", .str t), ("rules", .ref l)])) c = some o) ∧ LamX.Tabs (T0 P0) (upd H3 a (.ins CG dx [("text", .str t), ("rules", .ref l)])) := fun l H3 s3 hl => by
      have ha3 := s3 _ _ ha2
      exact ⟨l, upd_same, by rw [upd_ne (ne_of hl ha3 fun z => nomatch z)]; exact hl, fun c o n z => by rw [upd_ne n]; exact s3 _ _ z, tabs_upd (tb2.ext s3) ha3 (fun _ z => nomatch z) fun _ _ z => nomatch z⟩
    refine ⟨_, rfl, _, ⟨szB (by omega), rfl⟩, ?_⟩
    rw [str_ne0]
    by_cases c0 : t ≠ ""
    · have eL : (Txt.split t (Str.ofString "\n")).map V.str = (lnsOf t).map V.str := by unfold lnsOf; rw [if_neg c0]
      refine ify (decide_eq_true c0) ⟨_, rfl, ⟨_, rfl⟩, _, _, rfl, rfl, by decide +kernel, szB (by omega), fun L hL => ?_⟩
      refine ⟨L, _, rfl, .inl ⟨SqL.of upd_same, fun l hl => ?_⟩⟩
      have sL := same1 hL (.lst ((Txt.split t (Str.ofString "\n")).map V.str))
      have sl := same_new sL hl (.tup ((Txt.split t (Str.ofString "\n")).map V.str))
      refine ⟨_, rfl, a, CG, dx, _, rfl, sl _ _ ha2, clG, A0.g2, (by decide : (1 : Nat) < 1000), rfl, ?_⟩
      exact fin l _ sl (by rw [upd_same, eL])
    · have eL : lnsOf t = [] := by unfold lnsOf; rw [if_pos (Decidable.not_not.mp c0)]
      refine ifn (decide_eq_false c0) ⟨szB (by decide), fun l hl => ?_⟩
      have sl := same1 hl (.tup [])
      refine ⟨_, rfl, a, CG, dx, _, rfl, sl _ _ ha2, clG, A0.g2, (by decide : (1 : Nat) < 1000), rfl, ?_⟩
      exact fin l _ sl (by rw [upd_same, eL]; rfl)
  rintro σ' H3 ⟨rfl, rt, ha3, hrt, keep3, tb3⟩
  have keep13 : ∀ c o, c ≠ a → H1 c = some o → H3 c = some o := fun c o n z => keep3 c o n (keep1 c o n z)
  have hb3 := keep13 _ _ nba hb
  have hru3 : ∀ r ∈ rs, RuG CR H3 r := fun r hr => by
    obtain ⟨a', dx', k, op, cx, nd, es, db, ln, e, h1, h2⟩ := hru r hr
    exact ⟨a', dx', k, op, cx, nd, es, db, ln, e, keep13 _ _ (neR h1 fun z => nomatch z) h1, h2⟩
  refine ⟨_, rfl, b, rfl, ⟨_, SqT.of hb3⟩, fun D hD => ?_⟩
  refine lc_tup (K := K) (a := b) (xs := rs) (fun i H' => ∃ ns : List Int, H' D = some (.lst (ns.map V.int)) ∧ Same H3 H' ∧ ns.length = i) ⟨[], upd_same, same1 hD _, rfl⟩ (fun i H' _ ⟨_, _, z, _⟩ => SqT.of (z _ _ hb3)) ?_ ?_
  · rintro i x H4 hx ⟨ns, g1, g2, g3⟩
    have hil := (List.getElem?_eq_some_iff.mp hx).1
    refine ⟨rfl, ?_⟩
    dsimp only [tYes]
    rw [if_pos rfl]
    refine ⟨_, rfl, x, rfl, (hru3 x (List.mem_of_getElem? hx)).same g2, fun z H5 s5 => ?_⟩
    refine ⟨_, s5 _ _ g1, szL (by rw [List.length_map]; omega), ns ++ [z], by rw [upd_same, List.map_append]; rfl, ?_, by rw [List.length_append, g3]; rfl⟩
    exact fun c o y => by rw [upd_ne (ne_of_none y hD)]; exact s5 _ _ (g2 _ _ y)
  · rintro H4 ⟨ns, g1, g2, g3⟩
    refine ⟨D, ns, rfl, SqL.of g1, _, _, rfl, rfl, ?_⟩
    have ha4 := g2 _ _ ha3
    refine ⟨_, rfl, a, CG, dx, _, rfl, ha4, clG, A0.g3, (by decide : (2 : Nat) < 1000), ?_⟩
    rw [show putF (Str.ofString "weight") (V.int (1 + ns.sum)) [(Str.ofString "text", V.str t), (Str.ofString "rules", V.ref rt)] = [(Str.ofString "text", V.str t), (Str.ofString "rules", V.ref rt), (Str.ofString "weight", V.int (1 + ns.sum))] from rfl]
    have tb5 : LamX.Tabs (T0 P0) (upd H4 a (.ins CG dx [("text", .str t), ("rules", .ref rt), ("weight", .int (1 + ns.sum))])) := tabs_upd (tb3.ext g2) ha4 (fun _ z => nomatch z) fun _ _ z => nomatch z
    have ha5 : (upd H4 a (.ins CG dx [("text", .str t), ("rules", .ref rt), ("weight", .int (1 + ns.sum))])) a = some (.ins CG dx [("text", .str t), ("rules", .ref rt), ("weight", .int (1 + ns.sum))]) := upd_same
    have keep5 : ∀ c o, c ≠ a → H3 c = some o → (upd H4 a (.ins CG dx [("text", .str t), ("rules", .ref rt), ("weight", .int (1 + ns.sum))])) c = some o := fun c o n z => by rw [upd_ne n]; exact g2 _ _ z
    generalize upd H4 a (.ins CG dx [("text", .str t), ("rules", .ref rt), ("weight", .int (1 + ns.sum))]) = H5 at tb5 ha5 keep5 ⊢
    refine ⟨_, rfl, fun x dxx hx hdx ne => ?_⟩
    have hdx' := hdx
    have sx1 := same1 hdx (.own x)
    have hx1 : (upd H5 dxx (.own x)) x = none := by rw [upd_ne ne.symm]; exact hx
    have sx := same_new sx1 hx1 (.ins CD dxx [])
    have nrt : rt ≠ a := ne_of hrt ha3 fun z => nomatch z
    refine ⟨x, dxx, b, rs, rfl, upd_same, sx _ _ (keep5 _ _ nba hb3), hz, fun r hr => ?_, tb5.ext sx, fun H6 x6 tb6 => ⟨rfl, ?_⟩⟩
    · obtain ⟨a', dx', k, op, cx, nd, es, db, ln, e, h1, h2⟩ := hru r hr
      have nn := neR h1 fun z => nomatch z
      exact ⟨a', dx', k, op, cx, nd, es, db, ln, e, sx _ _ (keep5 _ _ nn (keep13 _ _ nn h1)), h2⟩
    have nx : ∀ {c o}, H5 c = some o → c ≠ x := fun z => ne_of_none z hx
    have ha6 := x6 _ _ (nx ha5) (sx _ _ ha5) (fun _ z => nomatch z)
    have hrt5 := keep5 _ _ nrt hrt
    have hrt6 := x6 _ _ (nx hrt5) (sx _ _ hrt5) (fun _ z => nomatch z)
    refine ⟨_, rfl, a, CG, dx, _, rfl, ha6, clG, A0.g4, (by decide : (3 : Nat) < 1000), ?_⟩
    refine qo e0 _ (fun c o n z m => ?_) (tabs_upd tb6 ha6 (fun _ z => nomatch z) fun _ _ z => nomatch z) ⟨dx, rt, _, x, upd_same, by rw [upd_ne nrt]; exact hrt6⟩
    rw [upd_ne n]
    have z5 := keep5 _ _ n (keep13 _ _ n (s1 _ _ z))
    exact x6 _ _ (nx z5) (sx _ _ z5) m

end
end Vf

set_option maxRecDepth 100000
set_option maxHeartbeats 4000000
namespace Vf
open PySem PySem.Spec PyProof.Rows L2 SX
section
variable {P : Program} {w : World} {K : PySem.W.Frag} {mg : Str → Option Value} {base : Heap}
theorem ok_Tongue_len {CR CD CG : Addr} {f : Addr} {fd : FuncData} {q : Str} (O : OwnM K CG "__len__" f) (F : C8.Fun K "__len__" q s_Tongue_len f fd) (b : Binds K fd ["self"] []) (T : Tx K w mg) (A0 : Ca K CR CD CG) : LenC P w K mg base 1 CG (sp_Tongue_len CG) := by
  refine ⟨⟨f, fd, _, O, ?_, b⟩⟩
  refine C8.fn0 F sc_Tongue_len (fun vs H Q E h => ?_) (fun cdv A outer s H vs Q E hr h => ?_)
  · obtain ⟨a, t, rfl, _⟩ := h; rfl
  have hu := hu_of hr
  refine ⟨_, (pss_one (ps_ret (pe_callB call_len (by rfl) T.z_len PySem.boot_len (pa_cons (pe_fld (pv 0) rfl) pa_nil)))), ?_⟩
  obtain ⟨a, t, rfl, ⟨dx, rt, wi, rd, h1, h2⟩, hz, q⟩ := h
  exact ⟨_, rfl, a, CG, dx, _, _, rfl, h1, A0.iG.cl, A0.g2, rfl, _, _, rfl, .inr ⟨_, SqT.of h2, (List.length_map ..).symm⟩, q⟩
theorem ok_Tongue_iter {CR CD CG : Addr} {f : Addr} {fd : FuncData} {q : Str} (O : OwnM K CG "__iter__" f) (F : C8.Fun K "__iter__" q s_Tongue_iter f fd) (b : Binds K fd ["self"] []) (T : Tx K w mg) (A0 : Ca K CR CD CG) : OitC P w K mg base 1 CG "rules" := by
  refine ⟨⟨f, fd, _, O, ?_, b⟩⟩
  refine fnN_of F sc_Tongue_iter (fun n vs H Q E h => ?_) (fun cdv A outer s H vs Q hr h => ?_)
  · obtain ⟨a, dx, t, fs, xs, rfl, _⟩ := h; rfl
  have hu := hu_of hr
  refine ⟨_, (pss_one (ps_ret (pe_callB call_iterT (by rfl) T.z_iter (by decide +kernel) (pa_cons (pe_fld (pv 0) rfl) pa_nil)))), ?_⟩
  obtain ⟨a, dx, t, fs, xs, rfl, h1, h2, h3, q⟩ := h
  exact ⟨_, rfl, a, CG, dx, _, _, rfl, h1, A0.iG.cl, A0.g2, h2, t, xs, rfl, h3, fun it hi hn => q it hi hn⟩
theorem ok_Tongue_eq {CR CD CG : Addr} {f : Addr} {fd : FuncData} {q : Str} (O : OwnC K CG f) (gc : mg "Tongue" = some (.ref CG)) (F : C8.Fun K "__eq__" q s_Tongue_eq f fd) (b : Binds K fd ["self", "other"] []) (T : Tx K w mg) (A0 : Ca K CR CD CG) : Eqc P w K mg base 1 CG (EqG CG) := by
  refine ⟨⟨f, fd, _, O, ?_, b⟩⟩
  refine C8.fn0 F sc_Tongue_eq (fun vs H Q E h => ?_) (fun cdv A outer s H vs Q E hr h => ?_)
  · obtain ⟨a, b, r, rfl, _⟩ := h; rfl
  have hu := hu_of hr
  refine ⟨_, (pss_one (ps_ret (pe_and (pe_callB (C8.call_isC A0.iG) (by rfl) T.z_isinstance (by decide +kernel) (pa_cons (pv 1) (pa_cons (pe_cls (gc) rfl) pa_nil))) (pe_one (pe_cmpR op_eq (pe_fld (pv 0) rfl) (pe_fld (pv 1) rfl) (nomark _)))))), ?_⟩
  obtain ⟨a, b, r, rfl, ⟨t, u, ⟨dx, rt, wi, rd, h1, h2⟩, ⟨dy, rt', wi', rd', h3, h4⟩, rfl⟩, k⟩ := h
  have k' := k H (same_refl H)
  refine ⟨_, rfl, b, dy, _, rfl, h3, true, rfl, ifT ?_⟩
  refine ⟨_, rfl, a, CG, dx, _, _, rfl, h1, A0.iG.cl, A0.g1, rfl, _, rfl, b, CG, dy, _, _, rfl, h3, A0.iG.cl, A0.g1, rfl, rfl, ?_⟩
  rw [dS]
  exact k'

end
end Vf

set_option maxRecDepth 100000
set_option maxHeartbeats 4000000
namespace Vf
open PySem PySem.Spec PyProof.Rows L2 SX
section
variable {P : Program} {w : World} {K : PySem.W.Frag} {mg : Str → Option Value} {base : Heap}
theorem ok_wordStands {f : Addr} {fd : FuncData} (F : C8.Def K mg "_law_word_stands" s_wordStands f fd) (b : Binds K fd ["_law_before", "_law_word_here", "_law_openings"] []) (T : Tx K w mg) (C_lawIsMark : C8.Cal P w K mg base 2 "_law_is_mark" sp_lawIsMark []) (C_optionStands : C8.Cal P w K mg base 3 "_law_option_stands" (sp_optionStands K) []) : C8.Cal P w K mg base 4 "_law_word_stands" (sp_wordStands K) [] := by
  refine C8.cal0 F b .nil sc_wordStands (fun vs H Q E h => ?_) (fun cdv A outer s H vs Q E hr h => ?_)
  · obtain ⟨a, o, ws, os, w, rfl, _⟩ := h; rfl
  have hu := hu_of hr
  refine ⟨_, (pss_cons (ps_set (i := 3) sc_wordStands.nd rfl (Or.inl rfl) (pe_callB call_len (by rfl) T.z_len PySem.boot_len (pa_cons (pv 0) pa_nil)))
      (pss_cons (ps_if (pt_cmpR op_eq (pv 3) pe_int (nomark _))
      (pss_one (ps_ret (pe_cmpR op_in_seq (pv 1) (pe_lst (pa_cons pe_str (pa_cons pe_str pa_nil))) rfl)))
      pss_nil)
      (pss_cons (ps_if (pt_cmpR op_eq (pv 3) pe_int (nomark _))
      (pss_one (ps_ret (pe_and (C8.pe_c C_lawIsMark hr (by decide) rfl (pa_cons (pv 1) pa_nil)) (pe_one (pe_cmpR op_notIn_seq (pv 1) (pv 2) rfl)))))
      pss_nil)
      (pss_cons (ps_if (pt_cmpR op_eq (pv 3) pe_int (nomark _))
      (pss_one (ps_ret (pe_cmpR op_eq (pv 1) pe_str (nomark _))))
      pss_nil)
      (pss_cons (ps_if (pt_cmpR op_eq (pv 3) pe_int (nomark _))
      (pss_one (ps_ret (pe_or (pe_cmpR op_eq (pv 1) pe_str (nomark _)) (pe_one (C8.pe_c C_lawIsMark hr (by decide) rfl (pa_cons (pv 1) pa_nil))))))
      pss_nil)
      (pss_one (ps_ret (C8.pe_c C_optionStands hr (by decide) rfl (pa_cons (pv 0) (pa_cons (pv 1) pa_nil)))))))))), ?_⟩

  obtain ⟨a, o, ws, os, w, rfl, ha, ho, hz, hch, hw, hwc, q⟩ := h
  have q0 := q H (same_refl H)
  have hl : ws.length = (ws.map V.str).length := (List.length_map ..).symm
  refine ⟨_, rfl, _, ws.length, rfl, .inl ⟨_, ha, hl⟩, ?_⟩
  refine ⟨_, rfl, rfl, _, rfl, ?_⟩
  rw [show V.int 0 = V.int ((0 : Nat) : Int) from rfl, dN]
  unfold canB at q0
  by_cases c0 : ws.length = 0
  · rw [if_pos c0] at q0
    refine ify (decide_eq_true c0) ⟨_, rfl, sz_2, fun L hL => ?_⟩
    have sL := same1 hL (.lst [.str "remark", .str "quote"])
    refine ⟨L, _, rfl, .inl (SqL.of upd_same), rfl, rfl, ?_⟩
    rw [if_neg Bool.false_ne_true, show ([V.str "remark", V.str "quote"] : List V) = (["remark", "quote"] : List Str).map V.str from rfl, inV_strs]
    have q1 := q _ sL
    unfold canB at q1
    rw [if_pos c0] at q1
    exact q1
  have cb : canB ws w os = if ws.length = 1 then isMk w && !(decide (w ∈ os)) else if ws.length = 2 then decide (w = "to") else if ws.length = 3 then decide (w = "line") || isMk w else optB ws w := by
    unfold canB; rw [if_neg c0]
  rw [if_neg c0] at q0
  refine ifn (decide_eq_false c0) ⟨_, rfl, rfl, _, rfl, ?_⟩
  rw [show V.int 1 = V.int ((1 : Nat) : Int) from rfl, dN]
  by_cases c1 : ws.length = 1
  · refine ify (decide_eq_true c1) ⟨_, rfl, w, rfl, hw, hwc, fun H1 s1 => ⟨_, rfl, ?_⟩⟩
    have q1 := q H1 s1
    rw [cb, if_pos c1] at q1
    cases cm : isMk w with
    | false => rw [cm, Bool.false_and] at q1; exact ifF q1
    | true =>
      rw [cm, Bool.true_and] at q1
      refine ifT ⟨_, rfl, _, rfl, o, _, rfl, .inl (sqL_same s1 ho), rfl, flat_strs _, ?_⟩
      rw [if_pos rfl, inV_strs]
      exact q1
  rw [if_neg c1] at q0
  refine ifn (decide_eq_false c1) ⟨_, rfl, rfl, _, rfl, ?_⟩
  rw [show V.int 2 = V.int ((2 : Nat) : Int) from rfl, dN]
  by_cases c2 : ws.length = 2
  · rw [if_pos c2] at q0
    refine ify (decide_eq_true c2) ⟨_, rfl, rfl, ?_⟩
    rw [dS]
    exact q0
  rw [if_neg c2] at q0
  refine ifn (decide_eq_false c2) ⟨_, rfl, rfl, _, rfl, ?_⟩
  rw [show V.int 3 = V.int ((3 : Nat) : Int) from rfl, dN]
  by_cases c3 : ws.length = 3
  · rw [if_pos c3] at q0
    refine ify (decide_eq_true c3) ⟨_, rfl, rfl, _, rfl, ?_⟩
    rw [dS]
    by_cases c4 : w = "line"
    · rw [decide_eq_true c4, Bool.true_or] at q0
      exact ify (decide_eq_true c4) q0
    · refine ifn (decide_eq_false c4) ⟨_, rfl, w, rfl, hw, hwc, fun H1 s1 => ?_⟩
      have q1 := q H1 s1
      rw [cb, if_neg c1, if_neg c2, if_pos c3, decide_eq_false c4, Bool.false_or] at q1
      exact q1
  refine ifn (decide_eq_false c3) ⟨_, rfl, _, rfl, a, ws, w, rfl, ha, by omega, hz, hch, hw, hwc, fun H1 s1 => ?_⟩
  have q1 := q H1 s1
  rw [cb, if_neg c1, if_neg c2, if_neg c3] at q1
  exact q1

end
end Vf

set_option maxRecDepth 100000
set_option maxHeartbeats 4000000
namespace Vf
open PySem PySem.Spec PyProof.Rows L2 SX
section
variable {P : Program} {w : World} {K : PySem.W.Frag} {mg : Str → Option Value} {base : Heap}
theorem ok_wrongColumn {f : Addr} {fd : FuncData} (F : C8.Def K mg "wrong_column" s_wrongColumn f fd) (b : Binds K fd ["line", "openers"] []) (T : Tx K w mg) (C_canStand : C8.Cal P w K mg base 2 "can_stand" (sp_canStand K) []) : C8.Cal P w K mg base 3 "wrong_column" (sp_wrongColumn K) [] := by
  refine C8.cal0 F b .nil sc_wrongColumn (fun vs H Q E h => ?_) (fun cdv A outer s H vs Q E hr h => ?_)
  · obtain ⟨o, os, l, rfl, _⟩ := h; rfl
  have hu := hu_of hr
  refine ⟨_, (pss_cons (ps_set (i := 2) sc_wrongColumn.nd rfl (Or.inl rfl) (pe_split (pv 0) pe_str))
      (pss_cons (ps_set (i := 3) sc_wrongColumn.nd rfl (Or.inl rfl) pe_int)
      (pss_cons (ps_for PassesOwn.never rfl (pi_enum (by rfl) T.z_enumerate (pa_cons (pv 2) pa_nil)) (pg_tup rfl (pgs_cons (pg_name (i := 4) sc_wrongColumn.nd rfl (Or.inl rfl)) (pgs_cons (pg_name (i := 5) sc_wrongColumn.nd rfl (Or.inl rfl)) pgs_nil)))
      (pss_cons (ps_if (pt_not (pt_val (C8.pe_c C_canStand hr (by decide) rfl (pa_cons (pe_slice sl_list (pv 2) po_none (po_some (pv 4))) (pa_cons (pv 5) (pa_cons (pv 1) pa_nil))))))
      (pss_one (ps_ret (pv 3)))
      pss_nil)
      (pss_one (ps_aug (i := 3) sc_wrongColumn.nd rfl (Or.inl rfl) (pe_op op_add (pe_callB call_len (by rfl) T.z_len PySem.boot_len (pa_cons (pv 5) pa_nil)) pe_int) ip_add))))
      (C8.pss_cut (ps_if (PW.pt (pw_or (pt_cmpR op_lt (pe_callB call_len (by rfl) T.z_len PySem.boot_len (pa_cons (pv 2) pa_nil)) pe_int (nomark _)) (pw_or1 (pt_cmpR op_in_seq (pe_ix ix_list (pv 2) (pe_un un_neg pe_int) (fun _ _ => rfl)) (pe_tup (pa_cons pe_str (pa_cons pe_str pa_nil))) rfl))))
      (pss_one (ps_ret (pe_op op_add (pe_callB call_len (by rfl) T.z_len PySem.boot_len (pa_cons (pv 0) pa_nil)) pe_int)))
      pss_nil)
      (pss_one (ps_ret pe_non)))))), ?_⟩

  obtain ⟨o, os, l, rfl, ho, hl, q⟩ := h
  obtain ⟨b1, b2, b3⟩ := spS_bnd l
  refine ⟨_, rfl, ⟨_, rfl⟩, _, _, rfl, rfl, by decide +kernel, szB (by omega), fun W hW => ?_⟩
  have eW : Txt.split l (Str.ofString " ") = spS l := rfl
  rw [eW]
  have z1 : (spS l).length ≤ 1001 := by omega
  have gW : (upd H W (.lst ((spS l).map V.str))) W = some (.lst ((spS l).map V.str)) := upd_same
  refine ⟨_, rfl, W, (spS l).map V.str, rfl, SqL.of gW, ?_⟩
  refine for_it walk_enum (fun i σ H' => ∃ (c : Nat) (v4 v5 : Option V), σ = [some (.str l), some (.ref o), some (.ref W), some (.int (c : Int)), v4, v5] ∧ H' W = some (.lst ((spS l).map V.str)) ∧ Same H H' ∧ Vd ((spS l).take i) os ∧ wcGo os [] (spS l) 1 = wcGo os ((spS l).take i) ((spS l).drop i) c)
    ⟨1, none, none, rfl, gW, same1 hW _, vd_nil os, rfl⟩ (fun i σ H' _ ⟨_, _, _, _, z, _⟩ => SqL.of z) ?_ ?_
  · rintro i x σ H1 H2 hi ⟨c, v4, v5, rfl, h1, s1, vd, e⟩ ⟨T', x', y', rfl, hT, rfl, ex, ey⟩
    cases ex
    dsimp only at ey
    rw [List.getElem?_map] at ey
    obtain ⟨w', hw', rfl⟩ := Option.map_eq_some_iff.mp ey
    have s2 := same_new s1 hT (.tup [.int (i : Int), .str w'])
    have h2 : (upd H1 T' (.tup [.int (i : Int), .str w'])) W = some (.lst ((spS l).map V.str)) := by rw [upd_ne (ne_of_none h1 hT)]; exact h1
    refine ⟨T', _, rfl, SqT.of upd_same, rfl, _, _, rfl, _, _, rfl, rfl, ?_⟩
    refine ⟨_, rfl, _, rfl, (i : Int), rfl, W, _, rfl, SqL.of h2, fun G hG => ?_⟩
    rw [cut_to, strs_take]
    have s3 := same_new s2 hG (.lst (((spS l).take i).map V.str))
    have h3 : (upd (upd H1 T' (.tup [.int (i : Int), .str w'])) G (.lst (((spS l).take i).map V.str))) W = some (.lst ((spS l).map V.str)) := by rw [upd_ne (ne_of_none h2 hG)]; exact h2
    have hwl : w'.length ≤ 1000 := Nat.le_trans (b2 w' (List.mem_of_getElem? hw')) hl
    refine ⟨_, rfl, _, rfl, G, o, (spS l).take i, os, w', rfl, SqL.of upd_same, sqL_same s3 ho, vd, by rw [List.length_take]; omega, hwl, fun H3 s4 => ⟨_, rfl, ?_⟩⟩
    have ed : (spS l).drop i = w' :: (spS l).drop (i + 1) := by
      obtain ⟨hlt, eg⟩ := List.getElem?_eq_some_iff.mp hw'
      rw [← eg]; exact List.drop_eq_getElem_cons hlt
    have et : (spS l).take (i + 1) = (spS l).take i ++ [w'] := by rw [List.take_add_one, hw']; rfl
    rw [ed] at e
    rw [wcGo_cons] at e
    have sH : Same H H3 := fun b u z => s4 _ _ (s3 b u z)
    cases cb : canB ((spS l).take i) w' os with
    | false =>
      rw [cb, if_neg Bool.false_ne_true] at e
      refine ifT ⟨_, rfl, ?_⟩
      have qq := q H3 sH
      unfold wcol at qq
      rw [show wcGo os [] (spS l) 1 = some c from e] at qq
      exact qq
    | true =>
      rw [cb, if_pos rfl] at e
      refine ifF ⟨_, rfl, _, rfl, _, w'.length, rfl, ⟨szB (by omega), rfl⟩, _, _, rfl, rfl, _, _, rfl, rfl, ?_⟩
      refine ⟨c + (w'.length + 1), _, _, rfl, s4 _ _ h3, sH, by rw [et]; exact vd_snoc vd cb, by rw [et]; exact e⟩
  · rintro σ H1 ⟨c, v4, v5, rfl, h1, s1, vd, e⟩
    rw [List.length_map] at vd e
    rw [List.drop_length, List.take_length] at e
    rw [List.take_length] at vd
    have en : wcGo os [] (spS l) 1 = none := e
    have qw : ∀ H', Same H H' → Q (colV .non (if (spS l).length < 4 ∨ (spS l).getLast? = some ("nested" : Str) ∨ (spS l).getLast? = some ("escape" : Str) then some (l.length + 1) else none)) H' := fun H' s' => by
      have := q H' s'
      unfold wcol at this
      rw [en] at this
      exact this
    refine ⟨fun σ' H' => Same H H' ∧ σ' = [some (.str l), some (.ref o), some (.ref W), some (.int (c : Int)), v4, v5] ∧ ¬ ((spS l).length < 4 ∨ (spS l).getLast? = some ("nested" : Str) ∨ (spS l).getLast? = some ("escape" : Str)), ?_, ?_⟩
    · refine ⟨_, rfl, _, (spS l).length, rfl, .inl ⟨_, SqL.of h1, (List.length_map ..).symm⟩, _, _, rfl, rfl, _, rfl, ?_⟩
      have e4 : decide (((spS l).length : Int) < 4) = decide ((spS l).length < 4) := decide_eq_decide.mpr (by omega)
      rw [e4]
      by_cases c4 : (spS l).length < 4
      · refine ify (decide_eq_true c4) ?_
        have := qw H1 s1
        rw [if_pos (.inl c4)] at this
        exact ⟨_, rfl, _, l.length, rfl, ⟨szB (by omega), rfl⟩, _, _, rfl, rfl, this⟩
      · refine ifn (decide_eq_false c4) ?_
        obtain ⟨u, gl, lst⟩ := at_lastS (ws := spS l) (by intro z; rw [z] at b3; exact absurd b3 (by decide))
        refine ⟨_, rfl, _, rfl, W, _, _, _, rfl, rfl, SqL.of h1, lst, sz_2, fun t ht => ?_⟩
        refine ⟨t, _, rfl, .inr (SqT.of upd_same), rfl, rfl, _, rfl, ?_⟩
        rw [show ([V.str "nested", V.str "escape"] : List V) = (["nested", "escape"] : List Str).map V.str from rfl, inV_strs]
        have s2 := same_new s1 ht (.tup ((["nested", "escape"] : List Str).map V.str))
        by_cases c5 : u ∈ (["nested", "escape"] : List Str)
        · refine ify (decide_eq_true c5) ?_
          have c6 : u = "nested" ∨ u = "escape" := by simpa using c5
          have := qw _ s2
          rw [if_pos (.inr (by rw [gl]; rcases c6 with z | z <;> rw [z] <;> simp))] at this
          exact ⟨_, rfl, _, l.length, rfl, ⟨szB (by omega), rfl⟩, _, _, rfl, rfl, this⟩
        · refine ifn (decide_eq_false c5) ⟨s2, rfl, ?_⟩
          have c6 : u ≠ "nested" ∧ u ≠ "escape" := by simpa using c5
          rw [gl]
          rintro (z | z | z)
          · exact c4 z
          · exact c6.1 (Option.some.inj z)
          · exact c6.2 (Option.some.inj z)
    · rintro σ' H2 ⟨s2, rfl, nn⟩
      have := qw H2 s2
      rw [if_neg nn] at this
      exact this

end
end Vf

set_option maxRecDepth 100000
set_option maxHeartbeats 4000000
namespace Vf
open PySem PySem.Spec PyProof.Rows L2 SX
section
variable {P : Program} {w : World} {K : PySem.W.Frag} {mg : Str → Option Value} {base : Heap}
theorem int_short {a : Nat} (ha : a ≤ 100000) : decide ((PyData.int (a : Int)).shown.length ≤ 10) = true := decide_eq_true (toString_length_le (v := (a : Int)) (by omega) (by decide) (show (a : Int) < 10 ^ 10 by omega))
theorem int_log {a : Nat} (ha : a ≤ 100000) : decide (((a : Int)).natAbs.log2 < 1920) = true := decide_eq_true (by
  rw [Int.natAbs_natCast]
  rcases Nat.eq_zero_or_pos a with rfl | h
  · decide
  · exact Nat.lt_trans ((Nat.log2_lt (by omega)).mpr (Nat.lt_of_le_of_lt ha (by decide : 100000 < 2 ^ 17))) (by decide))
theorem pair_shown {a b : Nat} (ha : a ≤ 1000) (hb : b ≤ 100000) : (PyData.tuple [.int (a : Int), .int (b : Int)]).showable = true ∧ (PyData.tuple [.int (a : Int), .int (b : Int)]).hasDict = false ∧ (PyData.tuple [.int (a : Int), .int (b : Int)]).depth ≤ 40 ∧ (PyData.tuple [.int (a : Int), .int (b : Int)]).shown.length ≤ sizeLine := by
  refine ⟨?_, ?_, ?_, ?_⟩
  · simp only [PyData.showable, PyData.showableAll]
    rw [int_log (by omega), int_log hb]; rfl
  · simp only [PyData.hasDict, PyData.hasDictAll]; rfl
  · simp only [PyData.depth, PyData.depthAll]; decide
  · have z := PyData.shown_le_bulk 10 (by decide) (.tuple [.int (a : Int), .int (b : Int)]) (by simp only [PyData.leavesShort, PyData.leavesShortAll]; rw [int_short (by omega), int_short hb]; rfl)
    simp only [PyData.bulk, PyData.bulkAll] at z
    exact Nat.le_trans z (by decide)
theorem wcGo_bnd {os : List Str} : ∀ {r ah : List Str} {c d : Nat}, wcGo os ah r c = some d → d ≤ c + (r.map fun x => x.length + 1).sum
  | [], _, _, _, h => by cases h
  | w :: r, ah, c, d, h => by
    rw [wcGo_cons] at h
    rw [List.map_cons, List.sum_cons]
    split at h
    · have := wcGo_bnd h; omega
    · cases h; omega
theorem sum_b {b : Nat} : ∀ {ls : List Str}, (∀ l ∈ ls, l.length ≤ b) → (ls.map fun x => x.length + 1).sum ≤ ls.length * (b + 1)
  | [], _ => Nat.zero_le _
  | l :: r, h => by
    have h1 := h l (.head _)
    have h2 := sum_b (b := b) (ls := r) fun x hx => h x (.tail _ hx)
    rw [List.map_cons, List.sum_cons, List.length_cons, Nat.succ_mul]
    omega
theorem wcol_bnd {l : Str} {os : List Str} {c n : Nat} (hl : l.length ≤ n) (h : wcol l os = some c) : c ≤ 1 + (n + 1) * (n + 1) := by
  obtain ⟨b1, b2, b3⟩ := spS_bnd l
  unfold wcol at h
  split at h
  · rename_i c' e
    cases h
    have h1 := wcGo_bnd e
    have h2 := sum_b (b := n) (ls := spS l) fun x hx => Nat.le_trans (b2 x hx) hl
    have h3 : (spS l).length * (n + 1) ≤ (n + 1) * (n + 1) := Nat.mul_le_mul_right _ (by omega)
    omega
  · split at h
    · cases h
      have : n + 1 ≤ (n + 1) * (n + 1) := Nat.le_mul_of_pos_left _ (by omega)
      omega
    · cases h
theorem fwGo_bnd {n : Nat} : ∀ {ls os : List Str} {k : Nat} {p : Nat × Nat}, (∀ l ∈ ls, l.length ≤ n) → fwGo k ls os = some p → p.1 ≤ k + ls.length ∧ p.2 ≤ 1 + (n + 1) * (n + 1)
  | [], _, _, _, _, h => by cases h
  | l :: r, os, k, p, hl, h => by
    rw [fwGo_cons] at h
    split at h
    · cases h
      exact ⟨by rw [List.length_cons]; omega, by omega⟩
    · cases e : wcol l os with
      | some c =>
        rw [e] at h
        cases h
        exact ⟨by rw [List.length_cons]; omega, wcol_bnd (hl l (.head _)) e⟩
      | none =>
        rw [e] at h
        obtain ⟨h1, h2⟩ := fwGo_bnd (fun x hx => hl x (.tail _ hx)) h
        exact ⟨by rw [List.length_cons]; omega, h2⟩
/-- what repr tells of a place -/
def fwR : Option (Nat × Nat) → Str
  | none => reprV .non
  | some p => (PyData.tuple [.int (p.1 : Int), .int (p.2 : Int)]).shown
theorem fw_repr {K K' : PySem.W.Frag} (hK : K = K') {H : Hp} {v : V} {o : Option (Nat × Nat)} {R : VK} (h : fwV H v o) (b : ∀ p, o = some p → p.1 ≤ 1000 ∧ p.2 ≤ 100000) (q : R (.str (fwR o)) H) :
    (rRepr K [v] H R) ∨ ∃ u, [v] = [u] ∧ ScR u ∧ R (.str (reprV u)) H := by
  cases o with
  | none => cases h; exact .inr ⟨_, rfl, .inl rfl, q⟩
  | some p =>
    obtain ⟨a, rfl, ha⟩ := h
    obtain ⟨b1, b2⟩ := b p rfl
    obtain ⟨p1, p2, p3, p4⟩ := pair_shown b1 b2
    exact .inl ⟨a, _, rfl, .tup (SqT.of ha) (.cons (.int _) (.cons (.int _) .nil)), p1, p2, p3, p4, q⟩
theorem strs_of {Pz : Str → Prop} {ys : List V} (h : ∀ v ∈ ys, ∃ z, v = V.str z ∧ Pz z) : ∃ zs : List Str, ys = zs.map V.str ∧ ∀ z ∈ zs, Pz z := by
  induction ys with
  | nil => exact ⟨[], rfl, fun _ z => nomatch z⟩
  | cons v r ih =>
    obtain ⟨z, e, hz⟩ := h v (.head _)
    obtain ⟨zs, e2, h2⟩ := ih fun u hu => h u (.tail _ hu)
    refine ⟨z :: zs, by rw [e, e2]; rfl, fun x hx => ?_⟩
    rcases List.mem_cons.mp hx with rfl | hx
    · exact hz
    · exact h2 x hx
theorem penN {H H' : Hp} {p c : Addr} {m : Nat} (h : PenAt H p c m) (e : LamX.ExtN H H') : PenAt H' p c m := by
  obtain ⟨ns, a, d, t, f, h1, h2, r⟩ := h
  exact ⟨ns, a, d, t, f, e _ _ h1 (fun _ z => nomatch z), e _ _ h2 (fun _ z => nomatch z), r⟩
theorem ifR {b : Bool} {ta : TE} {σ : L2.St} {H2 : Hp} {R : VK} (x : V) (hx : ∀ R : VK, R x H2 → ta σ H2 R) (k : ∀ v H3, Same H2 H3 → ((b = true ∧ v = x) ∨ (b = false ∧ ∃ Y, v = .ref Y ∧ H3 Y = some (.lst []))) → R v H3) : if b = true then ta σ H2 R else tLst tNil σ H2 R := by
  cases b with
  | true => rw [if_pos rfl]; exact hx R (k x H2 (same_refl H2) (.inl ⟨rfl, rfl⟩))
  | false =>
    rw [if_neg Bool.false_ne_true]
    exact ⟨szB (by decide), fun p hp => k _ _ (same1 hp _) (.inr ⟨rfl, p, rfl, upd_same⟩)⟩
theorem tl10 : TL.tl ("\n" : Str) = [10] := by decide +kernel
theorem join_len10 {b : Nat} {ls : List Str} (h : ∀ l ∈ ls, l.length ≤ b) : (Txt.join ("\n" : Str) ls).length ≤ ls.length * (b + 1) := by
  rw [TL.len_tl, tl_joinS, tl10]
  have := joinL_len (s := [10]) (b := b) (ls := ls.map TL.tl) fun l hl => by
    obtain ⟨w, hw, rfl⟩ := List.mem_map.mp hl
    rw [← TL.len_tl]; exact h w hw
  rwa [List.length_map] at this

end
end Vf

set_option maxRecDepth 100000
set_option maxHeartbeats 4000000
namespace Vf
open PySem PySem.Spec PyProof.Rows L2 SX
section
variable {P : Program} {w : World} {K : PySem.W.Frag} {mg : Str → Option Value} {base : Heap}
theorem ok_law {f : Addr} {fd : FuncData} {P0 : Addr} (F : C8.Def K mg "law" s_law f fd) (T : Tx K w mg) (CG_toldTongue : CalG P w K mg base 9 "_law_told_tongue" (sp_toldTongue K P0)) (C_pen : C8.Cal P w K mg base 1 "_law_pen" (sp_pen K) []) (C_newRules : C8.Cal P w K mg base 5 "_law_new_rules" sp_newRules []) (C_draw : C8.Cal P w K mg base 1 "_law_draw" sp_draw []) (C_ruleLine : C8.Cal P w K mg base 1 "_law_rule_line" sp_ruleLine []) (C_firstWrong : C8.Cal P w K mg base 6 "_law_first_wrong" (sp_firstWrong K) []) (C_spoiled : C8.Cal P w K mg base 3 "_law_spoiled" sp_spoiled []) : RunAt P w K mg base callerA f fd ["_law_script"] (sp_law K P0) := by
  have hR : Room 10 callerA := ⟨rfl, by decide, by decide⟩
  refine runAt_of (k := 9) F.fn sc_law (fun vs H Q E h => ?_) hR (fun cdv out s H vs Q h => ?_)
  · obtain ⟨a, ns, rfl, _⟩ := h; rfl
  have hr : Room 9 (callerA.deeper (envOfC "law" (C8.fnScope s_law) s.heap.objs.size f cdv)) := hR.deeper _
  have hu := hu_of hr
  have hu64 := hr.units
  refine ⟨_, (pss_cons (ps_set (i := 1) sc_law.nd rfl (Or.inl rfl) (C8.pe_c C_pen hr (by decide) rfl (pa_cons (pv 0) pa_nil)))
      (pss_cons (ps_for PassesOwn.never rfl (pi_range1 (by rfl) T.z_range (pa_cons pe_int pa_nil)) (pg_name (i := 2) sc_law.nd rfl (Or.inl rfl))
      (pss_cons (ps_set (i := 3) sc_law.nd rfl (Or.inl rfl) (C8.pe_c C_newRules hr (by decide) rfl (pa_cons (pv 1) (pa_cons (pe_op op_add pe_int (C8.pe_c C_draw hr (by decide) rfl (pa_cons (pv 1) (pa_cons pe_int pa_nil)))) (pa_cons pe_int pa_nil)))))
      (pss_cons (ps_par (i := 4) (j := 5) (by rfl) sc_law.nd rfl rfl (by decide) rfl rfl (pa_cons (pe_lc (own := [("_law_rule", 9)]) (g := (gName 9)) (tt := tYes) rfl sc_law.nd (pi_list (pv 3)) (blkOk_by (N := N_law) (sc := C8.fnScope s_law) (by decide +kernel)) (fun _ _ _ _ _ => pg_name (i := 9) sc_law.nd rfl (Or.inl rfl)) (fun _ _ _ _ _ => pts_nil) (fun _ _ _ _ _ => (C8.pe_c C_ruleLine hr (by decide) rfl (pa_cons (pv 9) pa_nil)))) (pa_cons (pe_lc (own := [("_law_rule", 9)]) (g := (gName 9)) (tt := tYes) rfl sc_law.nd (pi_list (pv 3)) (blkOk_by (N := N_law) (sc := C8.fnScope s_law) (by decide +kernel)) (fun _ _ _ _ _ => pg_name (i := 9) sc_law.nd rfl (Or.inl rfl)) (fun _ _ _ _ _ => pts_nil) (fun _ _ _ _ _ => (pe_ix (ix_tupK (K := K) rfl) (pv 9) pe_int (fun _ _ => rfl)))) pa_nil)) (by rfl))
      (pss_one (ps_for PassesOwn.never rfl (pi_range1 (by rfl) T.z_range (pa_cons pe_int pa_nil)) (pg_name (i := 6) sc_law.nd rfl (Or.inl rfl))
      (pss_cons (ps_set (i := 7) sc_law.nd rfl (Or.inl rfl) (pe_join pe_str (pv 4)))
      (pss_cons (ps_set (i := 8) sc_law.nd rfl (Or.inl rfl) (pe_ifExp (pt_cmpR op_ne (pv 7) pe_str (nomark _)) (pv 4) (pe_lst pa_nil)))
      (pss_cons (ps_if (pt_cmpR op_ne (pe_callB (cr_alt (call_reprD rfl hu64) call_reprS) (by rfl) T.z_repr (by decide +kernel) (pa_cons (pe_cG CG_toldTongue hr (by decide) rfl rfl (pa_cons (pv 7) (pa_cons (pv 8) pa_nil))) pa_nil)) (pe_callB (cr_alt (call_reprD rfl hu64) call_reprS) (by rfl) T.z_repr (by decide +kernel) (pa_cons (C8.pe_c C_firstWrong hr (by decide) rfl (pa_cons (pv 8) pa_nil)) pa_nil)) (nomark _))
      (pss_one (ps_ret pe_bl))
      pss_nil)
      (pss_one (ps_set (i := 4) sc_law.nd rfl (Or.inl rfl) (C8.pe_c C_spoiled hr (by decide) rfl (pa_cons (pv 1) (pa_cons (pv 4) (pa_cons (pv 5) pa_nil))))))))))))))
      (pss_one (ps_ret (pe_and (pe_cmpR op_isN (pe_cG CG_toldTongue hr (by decide) rfl rfl (pa_cons pe_str (pa_cons (pe_lst pa_nil) pa_nil))) pe_non (nomark _)) (pe_one (pe_cmpR op_eq (pe_callB (cr_alt (call_reprD rfl hu64) call_reprS) (by rfl) T.z_repr (by decide +kernel) (pa_cons (pe_cG CG_toldTongue hr (by decide) rfl rfl (pa_cons pe_str (pa_cons (pe_lst (pa_cons pe_str (pa_cons pe_str pa_nil))) pa_nil))) pa_nil)) pe_str (nomark _)))))))), ?_⟩

  obtain ⟨a, ns, rfl, ha, hn, h0, q⟩ := h
  refine ⟨_, rfl, a, ns, rfl, ha, hn, fun H1 p c k1 p1 => ?_⟩
  have tb1 : LamX.Tabs (T0 P0) H1 := tabs_ks (fun x hx => by rw [List.mem_singleton.mp hx]; exact LamX.TabS.nil h0) k1
  refine ⟨4, rfl, by decide, by decide, ?_⟩
  refine for_range (lo := 0) (n := 4) (fun i σ H' => ∃ (v2 v3 v4 v5 v6 v7 v8 : Option V), σ = [some (.ref a), some (.ref p), v2, v3, v4, v5, v6, v7, v8, none] ∧ PenAt H' p c (i * 600) ∧ LamX.Tabs (T0 P0) H')
    ⟨none, none, none, none, none, none, none, rfl, p1, tb1⟩ ?_ ?_
  · rintro i σ H2 hi ⟨v2, v3, v4, v5, v6, v7, v8, rfl, p2, tb2⟩
    refine ⟨_, rfl, _, rfl, p, c, i * 600, 8, rfl, p2, by omega, by decide, by decide, fun H3 r k3 p3 hr3 => ⟨_, _, rfl, rfl, ?_⟩⟩
    refine ⟨p, c, i * 600 + 1, 1 + r, congrArg (fun z : Int => [V.ref p, V.int z, V.int 4]) (show (1 : Int) + (r : Int) = ((1 + r : Nat) : Int) by omega), p3, by omega, by omega, by omega, fun H4 R rs k4 p4 hR r1 r2 r3 => ?_⟩
    have tb4 := tabs_ks (tabs_ks tb2 k3) k4
    refine ⟨_, rfl, R, rfl, ⟨_, SqL.of hR⟩, fun D hD => ?_⟩
    refine lc_listK (p := p) (c := c) (m0 := i * 600 + 1 + 400) (s := 0) (k := 9) (fun _ v _ => ∃ z, v = V.str z ∧ GoodS 100 z) (fun _ _ _ _ _ h => h) (by show 9 < 10; decide) hD hR p4 (by omega) (fun j x H5 m5 Q5 hx k5 p5 hm5 hq => ?_) (fun H5 ys y1 y2 y3 k5 p5 => ?_)
    · exact ⟨_, rfl, x, rfl, (r3 x (List.mem_of_getElem? hx)).tk k5.tk, fun H6 z s6 gz => hq H6 _ (Ks.of s6) (p5.same s6) ⟨z, rfl, gz⟩⟩
    obtain ⟨ls, rfl, gls⟩ := strs_of (ys := ys) (Pz := GoodS 100) fun v hv => by
      obtain ⟨j, hj, rfl⟩ := List.mem_iff_getElem.mp hv
      exact y2 j _ (List.getElem?_eq_getElem hj)
    have hR5 := k5.lst hR
    refine ⟨_, rfl, R, rfl, ⟨_, SqL.of hR5⟩, fun M hM => ?_⟩
    refine lc_listK (p := p) (c := c) (m0 := i * 600 + 1 + 400) (s := 0) (k := 9) (fun _ v _ => ∃ z, v = V.str z ∧ GoodS 8 z) (fun _ _ _ _ _ h => h) (by show 9 < 10; decide) hM hR5 (p5.mono (by omega)) (by omega) (fun j x H6 m6 Q6 hx k6 p6 hm6 hq => ?_) (fun H6 zs z1 z2 z3 k6 p6 => ?_)
    · obtain ⟨b, kd, o, cl, d, es, b1, b2, rfl, hb, g1, g2, g3, g4, g5⟩ := (r3 x (List.mem_of_getElem? hx)).tk (k5.trans k6).tk
      exact ⟨_, rfl, b, _, 1, _, rfl, rfl, SqT.of hb, rfl, hq H6 _ (Ks.refl _) p6 ⟨o, rfl, g2⟩⟩
    obtain ⟨ms, rfl, gms⟩ := strs_of (ys := zs) (Pz := GoodS 8) fun v hv => by
      obtain ⟨j, hj, rfl⟩ := List.mem_iff_getElem.mp hv
      exact z2 j _ (List.getElem?_eq_getElem hj)
    rw [List.length_map] at y1 z1
    refine ⟨_, _, rfl, ?_⟩
    have tb6 := tabs_ks (tabs_ks tb4 k5) k6
    refine ⟨4, rfl, by decide, by decide, ?_⟩
    refine for_range (lo := 0) (n := 4) (fun j σ H' => ∃ (L : Addr) (ls : List Str) (v6 v7 v8 : Option V), σ = [some (.ref a), some (.ref p), some (.int ((0 : Int) + (i : Int))), some (.ref R), some (.ref L), some (.ref M), v6, v7, v8, none] ∧ H' L = some (.lst (ls.map V.str)) ∧ 1 ≤ ls.length ∧ ls.length ≤ 8 + j ∧ (∀ z ∈ ls, GoodS (100 + 20 * j) z) ∧ H' M = some (.lst (ms.map V.str)) ∧ PenAt H' p c (i * 600 + 450 + j * 10) ∧ LamX.Tabs (T0 P0) H')
      ⟨D, ls, v6, v7, v8, rfl, k6.lst y3, by omega, by omega, gls, z3, p6.mono (by omega), tb6⟩ ?_ ?_
    · rintro j σ H7 hj ⟨L, l7, v6, v7, v8, rfl, hL, a1, a2, a3, hM7, p7, tb7⟩
      have g7 : ∀ z ∈ l7, GoodS 160 z := fun z hz => (a3 z hz).mono (by omega)
      have ll : ∀ z ∈ l7, z.length ≤ 160 := fun z hz => (g7 z hz).1
      have jl := join_len10 ll
      have sl := lens_sum ll
      have bj : (l7.map (·.length)).sum + l7.length * ("\n" : Str).length ≤ 16777216 := by
        rw [show ("\n" : Str).length = 1 by decide +kernel]; omega
      refine ⟨⟨_, rfl⟩, _, rfl, _, L, l7, rfl, rfl, .inl (SqL.of hL), bj, ?_⟩
      have hne : l7 ≠ [] := fun z => by rw [z] at a1; exact absurd a1 (by decide)
      have hjoin := lns_join hne fun l hl x hx => ((g7 l hl).2 x hx).1
      have jl2 : (Txt.join ("\n" : Str) l7).length ≤ 100000 := Nat.le_trans jl (by have := Nat.mul_le_mul_right (160 + 1) (show l7.length ≤ 12 by omega); omega)
      generalize Txt.join ("\n" : Str) l7 = tx at hjoin jl2
      refine ⟨_, rfl, rfl, _, rfl, ?_⟩
      refine ifR (.ref L) (fun R z => ⟨_, rfl, z⟩) fun v H8 s8 hv => ?_
      have hv' : ∃ RD, v = .ref RD ∧ SqL K H8 RD ((lnsOf tx).map V.str) ∧ (lnsOf tx).length ≤ 12 ∧ ∀ l ∈ lnsOf tx, GoodS 160 l := by
        rw [dS] at hv
        unfold lnsOf
        rcases hv with ⟨e, rfl⟩ | ⟨e, Y, rfl, hY⟩
        · have n0 : tx ≠ "" := fun z => by rw [decide_eq_true z] at e; cases e
          rw [if_neg n0, hjoin]
          exact ⟨L, rfl, SqL.of (s8 _ _ hL), by omega, g7⟩
        · have n0 : tx = "" := by
            by_cases z : tx = ""
            · exact z
            · rw [decide_eq_false z] at e; cases e
          rw [if_pos n0]
          exact ⟨Y, rfl, SqL.of hY, by decide, fun _ z => nomatch z⟩
      obtain ⟨RD, rfl, hRD, q1, q2⟩ := hv'
      have lo : LnOk (lnsOf tx) := ⟨by omega, fun l hl => (q2 l hl).mono (by decide)⟩
      have bd : ∀ x, fw (lnsOf tx) = some x → x.1 ≤ 1000 ∧ x.2 ≤ 100000 := fun x hx => by
        have := fwGo_bnd (n := 160) (fun l hl => (q2 l hl).1) hx
        omega
      refine ⟨_, rfl, _, rfl, tx, RD, rfl, hRD, jl2, lo, tb7.ext s8, fun H9 v9 e9 tb9 f9 => fw_repr rfl f9 bd ?_⟩
      refine ⟨_, rfl, RD, _, rfl, sqL_ext hRD e9, lo, fun H10 v10 s10 f10 => fw_repr rfl f10 bd ?_⟩
      have e10 : LamX.ExtN H7 H10 := fun b o z nz => s10 _ _ (e9 _ _ (s8 _ _ z) nz)
      refine ⟨rfl, _, rfl, ifn (by rw [decide_eq_true rfl]; rfl) ?_⟩
      refine ⟨_, rfl, _, rfl, _, rfl, p, c, L, M, i * 600 + 450 + j * 10, 100 + 20 * j, l7, ms, rfl, penN p7 e10, by omega, e10 _ _ hL (fun _ z => nomatch z), e10 _ _ hM7 (fun _ z => nomatch z), by omega, fun z hz => (gms z hz).mono (by decide), a1, by omega, by omega, a3, fun H11 d zs k11 p11 hd z1 z2 z3 => ?_⟩
      exact ⟨d, zs, _, _, _, rfl, hd, z1, by omega, fun z hz => (z3 z hz).mono (by omega), k11.lst (e10 _ _ hM7 (fun _ z => nomatch z)), p11.mono (by omega), tabs_ks (tb9.ext s10) k11⟩
    · rintro σ H7 ⟨L, l7, v6, v7, v8, rfl, hL, a1, a2, a3, hM7, p7, tb7⟩
      exact ⟨_, _, _, _, _, _, _, rfl, p7.mono (by omega), tb7⟩
  · rintro σ H2 ⟨v2, v3, v4, v5, v6, v7, v8, rfl, p2, tb2⟩
    have lo0 : LnOk (lnsOf ("" : Str)) := ⟨by decide +kernel, fun _ z => nomatch z⟩
    have f0 : fw (lnsOf ("" : Str)) = none := by decide +kernel
    have e1 : lnsOf ("\n" : Str) = (["", ""] : List Str) := by decide +kernel
    have lo1 : LnOk (lnsOf ("\n" : Str)) := by
      rw [e1]
      exact ⟨by decide, fun l hl => by
        simp only [List.mem_cons, List.not_mem_nil, or_false] at hl
        rcases hl with rfl | rfl <;> exact ⟨Nat.zero_le _, fun c hc => nomatch hc⟩⟩
    have f1 : fw (lnsOf ("\n" : Str)) = some (1, 1) := by decide +kernel
    refine ⟨szB (by decide), fun A hA => ⟨"", A, rfl, SqL.of upd_same, by decide +kernel, lo0, tb2.ext (same1 hA _), fun H3 v e3 tb3 fv => ⟨rfl, _, rfl, ?_⟩⟩⟩
    rw [f0] at fv
    cases fv
    refine ify (decide_eq_true rfl) ⟨szB (by decide), fun B hB => ⟨"\n", B, rfl, ?_, by decide +kernel, lo1, tb3.ext (same1 hB _), fun H4 v4 e4 tb4 fv4 => fw_repr rfl fv4 (fun x hx => by rw [f1] at hx; cases hx; exact ⟨by decide, by decide⟩) ⟨rfl, ?_⟩⟩⟩
    · rw [e1]; exact SqL.of upd_same
    · rw [f1, show decide (V.str (fwR (some (1, 1))) = V.str (Str.ofString "(1, 1)")) = true from by decide +kernel]
      exact q _

end
end Vf

set_option maxRecDepth 100000
set_option maxHeartbeats 4000000
namespace Vf
open PySem PySem.Spec PyProof.Rows L2 SX
/-! ### the law's call, with one table of code objects, at the one place where the guards are known -/
section
variable {P : Program} {w : World} {K : PySem.W.Frag} {mg mb : Str → Option Value} {fa a cc P0 : Addr} {fd : FuncData} {x : Str} {sp : Sp} {s : Shared} {ws : List Value} {ns : List Int}
theorem law_coreT (KX : K.In s.heap) (hn : s.heap.Ns mainGlobals mg) (hb : s.heap.Ns builtinsNs mb) (hbb : ∀ y : Str, y ≠ "__name__" → mb y = bootBuiltins y) (hl : s.heap.NoLimit) (hg : s.gens = #[])
    (hbm : ∃ (bm : Addr) (ob : Obj), mg "__builtins__" = some (.ref bm) ∧ bm ≠ builtinsNs ∧ s.heap.get? bm = some ob ∧ ob.cls = .type "module" ∧ ob.dict = some builtinsNs ∧ ob.data = .plain)
    (ha : s.heap.get? a = some { cls := .type "list", data := .seq ws.toArray }) (hT : s.heap.get? P0 = some { cls := .none, data := .fields #[] }) (nT : K.lookup P0 = none) (C : PySem.W.CodeHd s.heap cc P0)
    (F : ∀ b : Heap, K.In b → b.Ns mainGlobals mg → LamX.TabB b mg cc P0 → RunAt P w K mg b callerA fa fd [x] sp)
    (bind : ∀ (z : Shared) (u : Value), BindsTo z fd ⟨[u], []⟩ [(x, u)]) (H : Hp) (hP : H P0 = some (.tbl #[])) (hO : ∀ b, b ≠ P0 → H b = none ∨ ∃ o xs, H b = some (.frz o (.lst xs))) (hS : sp [.ref a] H (fun v _ => v = .bl true) noE) (ok : HOk P w H s.heap)
    (hA : ∀ b, H b ≠ none → b = a ∨ b = P0) (hK : H a ≠ none → K.lookup a = none) : codeAny (model P w) callerA (.call (.ref fa) ⟨[.ref a], []⟩) (LawEnd s) s := by
  have free : ∀ {b : Addr} {o : Obj}, s.heap.get? b = some o → (∀ vs n, o.data ≠ .seq vs n) → o.data ≠ .fields #[] → H b = none := fun {b o} e h1 h2 =>
    match q : H b with
    | none => rfl
    | some u => by
      rcases hA b (fun n => nomatch n.symm.trans q) with rfl | rfl
      · cases ha.symm.trans e
        exact (h1 _ _ rfl).elim
      · cases hT.symm.trans e
        exact (h2 rfl).elim
  have dictN : ∀ {b : Addr} {o : Obj} {es : Array DictEntry} {ep : Nat}, s.heap.get? b = some o → o.data = .dict es ep → H b = none := fun e d =>
    free e (fun vs n z => nomatch d.symm.trans z) fun z => nomatch d.symm.trans z
  have nsN : ∀ {b : Addr} {m : Str → Option Value}, s.heap.Ns b m → (hidT s.heap H).Ns b m := fun {b m} n => by
    obtain ⟨o, es, ep, e, d, r⟩ := n
    exact ⟨o, es, ep, hidT_get e (dictN e d), d, r⟩
  have kin : K.In (hidT s.heap H) := fun b o e => hidT_get (KX b o e) (match q : H b with
    | none => rfl
    | some u => by
      rcases hA b (fun n => nomatch n.symm.trans q) with rfl | rfl
      · cases (hK fun n => nomatch n.symm.trans q).symm.trans e
      · cases nT.symm.trans e)
  have lim : (hidT s.heap H).NoLimit := by
    obtain ⟨mc, l1, l2⟩ := hl
    exact ⟨mc, nsN l1, l2⟩
  have tb : LamX.TabB (hidT s.heap H) mg cc P0 := by
    refine ⟨?_, ?_, fun z => ?_⟩
    · obtain ⟨o, us, c1, c2, c3, c4, c5, c6, c7, g, k, dd, rest⟩ := C
      exact ⟨o, us, c1, c2, c3, c4, c5, c6, c7, hidT_get g (free g (fun _ _ z => nomatch dd.symm.trans z) fun z => by
        cases dd.symm.trans z
        cases rest.1), k, dd, rest⟩
    · obtain ⟨bm, ob, b1, b2, b3, b4, b5, b6⟩ := hbm
      refine ⟨bm, ob, b1, b2, fun z => ?_, fun z => ?_, hidT_get b3 (free b3 (fun _ _ z => nomatch b6.symm.trans z) fun z => nomatch b6.symm.trans z), b4, b5, b6⟩
      · obtain ⟨o, es, ep, e, hd, _⟩ := hn
        subst z
        cases e.symm.trans b3
        exact nomatch hd.symm.trans b6
      · subst z
        cases hT.symm.trans b3
        exact nomatch b6
    · obtain ⟨o, es, ep, e, hd, _⟩ := hn
      subst z
      cases hT.symm.trans e
      exact nomatch hd
  have e0 : Env0 P w K mg (hidT s.heap H) callerA [] s H := ⟨rfl, ⟨kin, nsN hn, ⟨mb, nsN hb, hbb⟩, lim⟩, fun _ _ e => of_hidT e, Nat.le_of_eq (hidT_size _ _), trivial, fun b z => absurd (show b ∈ ([] : List Addr) from z) List.not_mem_nil, ok, .of_eq hg⟩
  refine codeAny_mono (F _ kin (nsN hn) tb [] s H ⟨[.ref a], []⟩ [.ref a] [.ref a] _ e0 (bind s (.ref a)) (.cons rfl .nil) hS) fun r z h => ?_
  match r, h with
  | .error e, h => exact (show False from h).elim
  | .ok .next, h => exact (show False from h).elim
  | .ok .brk, h => exact (show False from h).elim
  | .ok .cont, h => exact (show False from h).elim
  | .ok (.ret u), h =>
    obtain ⟨v, H', os, bare, un, ok', rv, rfl⟩ := h
    cases (show u = Value.bool true from rv)
    have grown : ∃ more : Array Value, z.heap.get? P0 = some { cls := .none, data := .fields more } := by
      obtain ⟨more, q⟩ := un.tbls P0 #[] hP
      exact ⟨_, ok' P0 _ q⟩
    have keep : ∀ b o, b ≠ P0 → s.heap.get? b = some o → z.heap.get? b = some o := fun b o nb e => by
      rcases hO b nb with q | ⟨ob, xs, q⟩
      · exact un.keep b o e q (fun m => absurd (show b ∈ ([] : List Addr) from m) List.not_mem_nil) List.not_mem_nil
      · have g1 := (ok b _ q).1
        have g2 := (ok' b _ (un.frzs b ob _ q)).1
        cases e.symm.trans g1
        exact g2
    refine ⟨rfl, ⟨fun b o e => ?_, fun b o e => ?_⟩, os, bare⟩
    · by_cases nb : b = P0
      · subst nb
        cases hT.symm.trans e
        obtain ⟨more, hm⟩ := grown
        exact .inr (.inl ⟨(C.tab hT).isCodeTable, rfl, #[], more, rfl, by rw [Array.empty_append]; exact hm⟩)
      · exact .inl (keep b o nb e)
    · by_cases nb : b = P0
      · subst nb; exact grown.elim fun more hm => ⟨_, hm⟩
      · exact ⟨o, keep b o nb e⟩
theorem law_callGT (KX : K.In s.heap) (hn : s.heap.Ns mainGlobals mg) (hb : s.heap.Ns builtinsNs mb) (hbb : ∀ y : Str, y ≠ "__name__" → mb y = bootBuiltins y) (hl : s.heap.NoLimit) (hg : s.gens = #[])
    (hbm : ∃ (bm : Addr) (ob : Obj), mg "__builtins__" = some (.ref bm) ∧ bm ≠ builtinsNs ∧ s.heap.get? bm = some ob ∧ ob.cls = .type "module" ∧ ob.dict = some builtinsNs ∧ ob.data = .plain)
    (ha : s.heap.get? a = some { cls := .type "list", data := .seq ws.toArray }) (hi : IntsAre ws ns) (hz : ns.length ≤ sizeLine) (hT : s.heap.get? P0 = some { cls := .none, data := .fields #[] }) (nT : K.lookup P0 = none) (C : PySem.W.CodeHd s.heap cc P0)
    (F : ∀ b : Heap, K.In b → b.Ns mainGlobals mg → LamX.TabB b mg cc P0 → RunAt P w K mg b callerA fa fd [x] sp)
    (bind : ∀ (z : Shared) (u : Value), BindsTo z fd ⟨[u], []⟩ [(x, u)]) (hS : ∀ H : Hp, H P0 = some (.tbl #[]) → SqL K H a (ns.map V.int) → sp [.ref a] H (fun v _ => v = .bl true) noE) :
    codeAny (model P w) callerA (.call (.ref fa) ⟨[.ref a], []⟩) (LawEnd s) s := by
  have rv := vals_ints hi
  have aP : a ≠ P0 := fun z => by
    subst z
    exact nomatch congrArg Obj.data (Option.some.inj (hT.symm.trans ha))
  match hk : K.lookup a with
  | some o =>
    cases ha.symm.trans (KX a o hk)
    have e1 : ∀ {b : Addr}, b ≠ P0 → (fun b => if b = P0 then some (HO.tbl #[]) else none : Hp) b = none := fun n => if_neg n
    refine law_coreT KX hn hb hbb hl hg hbm ha hT nT C F bind (fun b => if b = P0 then some (.tbl #[]) else none) (if_pos rfl) (fun b n => .inl (e1 n)) (hS _ (if_pos rfl) (.inr ⟨_, ws.toArray, _, hk, rfl, rfl, rfl, by rw [List.size_toArray, hi.length]; exact hz, by simpa using rv⟩)) (fun b u z => ?_) (fun b z => ?_) fun z => absurd (e1 aP) z
    · by_cases y : b = P0
      · subst y
        cases (if_pos rfl : (if b = b then some (HO.tbl #[]) else none) = _).symm.trans z
        exact hT
      · exact nomatch (e1 y).symm.trans z
    · by_cases y : b = P0
      · exact .inr y
      · exact absurd (e1 y) z
  | none =>
    have e0 : (fun b => if b = a then some (.frz { cls := .type "list", data := .seq ws.toArray } (.lst (ns.map V.int))) else if b = P0 then some (HO.tbl #[]) else none : Hp) a = some (.frz { cls := .type "list", data := .seq ws.toArray } (.lst (ns.map V.int))) := if_pos rfl
    have e1 : (fun b => if b = a then some (.frz { cls := .type "list", data := .seq ws.toArray } (.lst (ns.map V.int))) else if b = P0 then some (HO.tbl #[]) else none : Hp) P0 = some (.tbl #[]) := (if_neg aP.symm).trans (if_pos rfl)
    have e2 : ∀ {b : Addr}, b ≠ a → b ≠ P0 → (fun b => if b = a then some (.frz { cls := .type "list", data := .seq ws.toArray } (.lst (ns.map V.int))) else if b = P0 then some (HO.tbl #[]) else none : Hp) b = none := fun n m => (if_neg n).trans (if_neg m)
    refine law_coreT KX hn hb hbb hl hg hbm ha hT nT C F bind (fun b => if b = a then some (.frz { cls := .type "list", data := .seq ws.toArray } (.lst (ns.map V.int))) else if b = P0 then some (HO.tbl #[]) else none) e1 (fun b n => ?_) (hS _ e1 (.inl (.inr ⟨_, e0⟩))) (fun b u z => ?_) (fun b z => ?_) fun _ => hk
    · by_cases y : b = a
      · subst y; exact .inr ⟨_, _, e0⟩
      · exact .inl (e2 y n)
    · by_cases y : b = a
      · subst y
        cases e0.symm.trans z
        exact ⟨ha, by rw [List.length_map]; exact hz, ws, _, rv, ha⟩
      · by_cases y2 : b = P0
        · subst y2
          cases e1.symm.trans z
          exact hT
        · exact nomatch (e2 y y2).symm.trans z
    · by_cases y : b = a
      · exact .inl y
      · by_cases y2 : b = P0
        · exact .inr y2
        · exact absurd (e2 y y2) z
end
/-- what is known of the law at the head's heap h -/
def LawG (P : Program) (w : World) (K : PySem.W.Frag) (n : Nat) (x : Str) (mg : Str → Option Value) (fa : Addr) (h : Heap) : Prop :=
  ∃ (fd : FuncData) (cc P0 : Addr) (sp : Sp), h.get? P0 = some { cls := .none, data := .fields #[] } ∧ K.lookup P0 = none ∧ PySem.W.CodeHd h cc P0 ∧ (∀ (s : Shared) (u : Value), BindsTo s fd ⟨[u], []⟩ [(x, u)]) ∧
    (∀ (H : Hp) (a : Addr) (ns : List Int), ns.length ≤ n → H P0 = some (.tbl #[]) → SqL K H a (ns.map V.int) → sp [.ref a] H (fun v _ => v = .bl true) noE) ∧
    ∀ base : Heap, K.In base → base.Ns mainGlobals mg → LamX.TabB base mg cc P0 → RunAt P w K mg base callerA fa fd [x] sp
theorem walk_tabG {l : PySem.W.OpenLaw} {n : Nat} {q : Program} {loose : List Str} {XP : (Str → Option Value) → Heap → Prop} {YP : World → Heap → Prop} {d : DefRec} {K : Params → PySem.W.Frag} {x : Str}
    (hn : l.most = some n) (hn2 : n ≤ sizeLine) (hdf : d.params.defaults = []) (hY : ∀ (w : World) (h : Heap), YP w h → (K w.params).In h)
    (F : ∀ (w : World) (mg : Str → Option Value) (fa : Addr) (h : Heap), (∃ loose2 mean mb, Top q loose2 mean mg mb h) → (K w.params).In h → h.Ns mainGlobals mg → mg d.name = some (.ref fa) → LawG l.prog w (K w.params) n x mg fa h) :
    PySem.W.WalkO q loose XP YP l.row.toRowW d [] (fun f vs => PySem.call f vs) := by
  refine Att.attach_callB hn hdf fun w s₀ s₁ mg mb fa o pm cd doc a vs ns G Y ho hd hcd hmg hobj hints hlen hbits hg => ?_
  have KX := hY w _ Y
  obtain ⟨fd, cc, P0, sp, hT, nT, C, hb, hsp, hF⟩ := F w mg fa _ ⟨_, _, _, G.T⟩ KX G.T.g hmg
  exact law_callGT KX G.T.g G.T.b G.T.builtins G.T.nolimit hg G.T.bmain hobj hints (Nat.le_trans hlen hn2) hT nT C hF hb fun H hH hS => hsp H a ns hlen hH hS
end Vf

set_option maxRecDepth 100000
set_option maxHeartbeats 4000000
namespace Vf
open PySem PySem.Spec PyProof.Rows L2 SX
theorem szS2 {n : Nat} (h : n ≤ 100) : n ≤ sizeLine := szB (by omega)
/-- a def of the module with how its arguments bind -/
def Dn (K : PySem.W.Frag) (mg : Str → Option Value) (x : Str) (st : Stmt) (ps : List Str) : Prop := ∃ (f : Addr) (fd : FuncData), C8.Def K mg x st f fd ∧ Binds K fd ps []
theorem useIt {A B : Prop} (h : A) (k : A → B) : B := k h
theorem useT {K : PySem.W.Frag} {h : Heap} {w : World} {mg : Str → Option Value} {B : Prop} (X : K.In h) (T : Tx K w mg) (k : Tx K w mg → B) : B := k T
section
variable {K : PySem.W.Frag} {h : Heap} {mg : Str → Option Value} {x : Str} {st : Stmt} {ps : List Str} {f d : Addr} {od an : Option Addr} {sl : Array (Option Value)} {oc kV dc pm cd ct : Value} {t : Tok} {w : World}
theorem dn_mk (X : K.In h) (G : h.Ns mainGlobals mg) (a : PySem.W.nsIn K mainGlobals x = some (some (.ref f)))
    (l : K.lookup f = some ⟨oc, od, .func (PySem.W.fnOf x x (C8.fnArgs st) (C8.fnBody st) (C8.fnScope st) .none kV dc pm an cd ct), sl⟩) (c : PySem.W.codeIn K cd x = true) (k : PySem.W.keepIn K (.ref f) = true)
    (hb : ∀ (kV doc pm : Value) (an : Option Addr) (cdv ct : Value) (us : List Value), us.length = ps.length → bindArgs (PySem.W.fnOf x x (C8.fnArgs st) (C8.fnBody st) (C8.fnScope st) .none kV doc pm an cdv ct) ⟨us, []⟩ = pure (ps.zip us)) : Dn K mg x st ps := by
  have F : C8.Fun K x x st f (PySem.W.fnOf x x (C8.fnArgs st) (C8.fnBody st) (C8.fnScope st) .none kV dc pm an cd ct) := ⟨oc, od, .none, kV, dc, pm, an, cd, ct, sl, rfl, l, c⟩
  exact ⟨f, _, ⟨F, PySem.W.mg_of X G a, k⟩, F.binds rfl hb⟩
theorem cst_str {n y : Str} {z : List Nat} (X : K.In h) (G : h.Ns mainGlobals mg) (a : PySem.W.nsIn K mainGlobals n = some (some (.str y t))) (e : y = S z) : ∃ u, mg n = some u ∧ RelV (.str (S z)) u :=
  ⟨_, PySem.W.mg_of X G a, ⟨t, by rw [e]⟩⟩
theorem cst_int {n : Str} {i : Int} (X : K.In h) (G : h.Ns mainGlobals mg) (a : PySem.W.nsIn K mainGlobals n = some (some (.int i t))) : ∃ u, mg n = some u ∧ RelV (.int i) u :=
  ⟨_, PySem.W.mg_of X G a, ⟨t, rfl⟩⟩
theorem cst_kd {n : Str} {es : Array DictEntry} {k : Nat} {g : Str → Option V} (X : K.In h) (G : h.Ns mainGlobals mg) (a : PySem.W.nsIn K mainGlobals n = some (some (.ref d))) (l : K.lookup d = some ⟨.type "dict", none, .dict es k, #[]⟩)
    (hk : PySem.W.KeysLit w.params es.toList) (low : (d == sysModules) = false) (hf : ∀ z, RelO (g z) (findBy Value.isStrOf es z)) : ∃ d, (∃ u, mg n = some u ∧ RelV (.ref d) u) ∧ KD K w d g :=
  ⟨d, ⟨_, PySem.W.mg_of X G a, rfl⟩, es, k, l, hk, low, hf⟩
end
/-- a class of errors -/
structure Ec (K : PySem.W.Frag) (mg : Str → Option Value) (n : Str) (C : Addr) : Prop where
  g : mg n = some (.ref C)
  o : OexC K C
  e : ExcC K C
  x : XfC K C
/-! ### the classes -/
/-- the class above all of them -/
def Wc (K : PySem.W.Frag) (W : Addr) : Prop := PySem.W.isClsIn K W = true ∧ PySem.W.typeIn K (.ref W) = some (.type "type")
/-- a class just beneath it -/
def Cb (K : PySem.W.Frag) (C W : Addr) : Prop := PySem.W.typeIn K (.ref C) = some (.type "type") ∧ ∃ cd : ClassData, PySem.W.clsIn K C = some cd ∧ cd.mro = [.ref C, .ref W, .type "ValueError", .type "Exception", .type "BaseException", .type "object"]
def Mt (K : PySem.W.Frag) : Prop := PySem.W.specialIn K (.builtin "object.__class__") "__get__" = some (some (.builtin "getset_descriptor.__get__")) ∧ PySem.W.takesIn K (.builtin "object.__class__") = some true
structure Cc (K : PySem.W.Frag) (mg : Str → Option Value) (n : Str) (C W : Addr) : Prop where
  ec : Ec K mg n C
  b : Cb K C W
structure Kc (K : PySem.W.Frag) (mg : Str → Option Value) (n : Str) (C W : Addr) (fs : List Str) (st : Stmt) : Prop where
  c : Cc K mg n C W
  no : ∀ f ∈ fs, PySem.W.findIn K (.ref C) f = some none
  ne : fs ≠ []
  i : ∃ (fI : Addr) (fd : FuncData) (q : Str), PySem.W.findIn K (.ref C) "__init__" = some (some (.ref fI)) ∧ PySem.W.typeIn K (.ref fI) = some (.type "function") ∧ C8.Fun K "__init__" q st fI fd ∧ Binds K fd (("self" : Str) :: fs) []
structure Kc0 (K : PySem.W.Frag) (mg : Str → Option Value) (n : Str) (C W : Addr) : Prop where
  c : Cc K mg n C W
  x : PySem.W.excIn K C [.type "ValueError", .type "Exception", .type "BaseException", .type "object"] "ValueError.__new__" = true
section
variable {K : PySem.W.Frag} {h : Heap} {mg : Str → Option Value} {w : World}
theorem wc_mk {n : Str} {W : Addr} (X : K.In h) (G : h.Ns mainGlobals mg) (a : PySem.W.nsIn K mainGlobals n = some (some (.ref W))) (c : PySem.W.isClsIn K W = true) (k : PySem.W.typeIn K (.ref W) = some (.type "type")) :
    mg n = some (.ref W) ∧ Wc K W := ⟨PySem.W.mg_of X G a, c, k⟩
theorem mt_mk (_ : K.In h) (n : PySem.W.specialIn K (.builtin "object.__class__") "__get__" = some (some (.builtin "getset_descriptor.__get__"))) (t : PySem.W.takesIn K (.builtin "object.__class__") = some true) : Mt K := ⟨n, t⟩
theorem cl_mk {n : Str} {C W N : Addr} {nm q : Str} {bs : List Value} {sn : List Str} {sub : List Value} {ab : Bool} {col : Option Bool} {dd : Option Addr} {k0 k1 k2 k3 k5 : Option Value} (X : K.In h) (G : h.Ns mainGlobals mg) (_w : mg "WorkshopError" = some (.ref W) ∧ Wc K W) (M : Mt K)
    (a : PySem.W.nsIn K mainGlobals n = some (some (.ref C))) (l : K.lookup C = some (excClassObj nm q C N bs [.ref W, .type "ValueError", .type "Exception", .type "BaseException", .type "object"] true sn sub ab col dd k0 k1 k2 k3 k5 "ValueError.__new__"))
    (s : PySem.W.findIn K (.ref C) "__setattr__" = some (some (.builtin "object.__setattr__"))) (b : PySem.W.subIn K (.ref C) (.type "BaseException") = some true) (y : PySem.W.typeIn K (.ref C) = some (.type "type")) (k : PySem.W.keepIn K (.ref C) = true)
    (g : PySem.W.findIn K (.ref C) "__getattribute__" = some (some (.builtin "BaseException.__getattribute__"))) (hh : PySem.W.findIn K (.ref C) "__getattr__" = some none) (d : PySem.W.hasDictIn K C = true)
    (e : PySem.W.findIn K (.ref C) "__class__" = some (some (.builtin "object.__class__"))) (m : PySem.W.mroIn K C (.type "object") = some true) : Cc K mg n C W :=
  ⟨⟨PySem.W.mg_of X G a, ⟨⟨nm, q, N, bs, _, sn, sub, ab, col, dd, k0, k1, k2, k3, k5, l, rfl⟩, s, b, y, k⟩, ⟨g, hh, b, d, e, M.1, M.2, m⟩, ⟨g, hh, b, d⟩⟩, y, _, (by unfold PySem.W.clsIn; rw [show List.lookup C K = _ from l]), rfl⟩
section
variable {n : Str} {C W fI : Addr} {q f0 f1 f2 : Str} {st : Stmt} {ps : List Str} {oc kV dc pm cd ct : Value} {od an : Option Addr} {sl : Array (Option Value)}
theorem kc_mk {fs : List Str} (c : Cc K mg n C W) (ne : fs ≠ []) (no : ∀ f ∈ fs, PySem.W.findIn K (.ref C) f = some none) (i : PySem.W.findIn K (.ref C) "__init__" = some (some (.ref fI))) (t : PySem.W.typeIn K (.ref fI) = some (.type "function"))
    (l : K.lookup fI = some ⟨oc, od, .func (PySem.W.fnOf "__init__" q (C8.fnArgs st) (C8.fnBody st) (C8.fnScope st) .none kV dc pm an cd ct), sl⟩) (cc : PySem.W.codeIn K cd q = true)
    (hb : ∀ (kV doc pm : Value) (an : Option Addr) (cdv ct : Value) (us : List Value), us.length = (("self" : Str) :: fs).length → bindArgs (PySem.W.fnOf "__init__" q (C8.fnArgs st) (C8.fnBody st) (C8.fnScope st) .none kV doc pm an cdv ct) ⟨us, []⟩ = pure (List.zip (("self" : Str) :: fs) us)) : Kc K mg n C W fs st := by
  have F : C8.Fun K "__init__" q st fI (PySem.W.fnOf "__init__" q (C8.fnArgs st) (C8.fnBody st) (C8.fnScope st) .none kV dc pm an cd ct) := ⟨oc, od, .none, kV, dc, pm, an, cd, ct, sl, rfl, l, cc⟩
  exact ⟨c, no, ne, fI, _, q, i, t, F, F.binds rfl hb⟩
theorem kc_mk1 (c : Cc K mg n C W) (n0 : PySem.W.findIn K (.ref C) f0 = some none) (i : PySem.W.findIn K (.ref C) "__init__" = some (some (.ref fI))) (t : PySem.W.typeIn K (.ref fI) = some (.type "function"))
    (l : K.lookup fI = some ⟨oc, od, .func (PySem.W.fnOf "__init__" q (C8.fnArgs st) (C8.fnBody st) (C8.fnScope st) .none kV dc pm an cd ct), sl⟩) (cc : PySem.W.codeIn K cd q = true)
    (hb : ∀ (kV doc pm : Value) (an : Option Addr) (cdv ct : Value) (us : List Value), us.length = 2 → bindArgs (PySem.W.fnOf "__init__" q (C8.fnArgs st) (C8.fnBody st) (C8.fnScope st) .none kV doc pm an cdv ct) ⟨us, []⟩ = pure (List.zip [("self" : Str), f0] us)) : Kc K mg n C W [f0] st :=
  kc_mk c (fun z => nomatch z) (fun f hf => by rw [List.mem_singleton.mp hf]; exact n0) i t l cc hb
theorem kc_mk2 (c : Cc K mg n C W) (n0 : PySem.W.findIn K (.ref C) f0 = some none) (n1 : PySem.W.findIn K (.ref C) f1 = some none) (i : PySem.W.findIn K (.ref C) "__init__" = some (some (.ref fI))) (t : PySem.W.typeIn K (.ref fI) = some (.type "function"))
    (l : K.lookup fI = some ⟨oc, od, .func (PySem.W.fnOf "__init__" q (C8.fnArgs st) (C8.fnBody st) (C8.fnScope st) .none kV dc pm an cd ct), sl⟩) (cc : PySem.W.codeIn K cd q = true)
    (hb : ∀ (kV doc pm : Value) (an : Option Addr) (cdv ct : Value) (us : List Value), us.length = 3 → bindArgs (PySem.W.fnOf "__init__" q (C8.fnArgs st) (C8.fnBody st) (C8.fnScope st) .none kV doc pm an cdv ct) ⟨us, []⟩ = pure (List.zip [("self" : Str), f0, f1] us)) : Kc K mg n C W [f0, f1] st :=
  kc_mk c (fun z => nomatch z) (fun f hf => by
    simp only [List.mem_cons, List.not_mem_nil, or_false] at hf
    rcases hf with rfl | rfl <;> assumption) i t l cc hb
theorem kc_mk3 (c : Cc K mg n C W) (n0 : PySem.W.findIn K (.ref C) f0 = some none) (n1 : PySem.W.findIn K (.ref C) f1 = some none) (n2 : PySem.W.findIn K (.ref C) f2 = some none) (i : PySem.W.findIn K (.ref C) "__init__" = some (some (.ref fI))) (t : PySem.W.typeIn K (.ref fI) = some (.type "function"))
    (l : K.lookup fI = some ⟨oc, od, .func (PySem.W.fnOf "__init__" q (C8.fnArgs st) (C8.fnBody st) (C8.fnScope st) .none kV dc pm an cd ct), sl⟩) (cc : PySem.W.codeIn K cd q = true)
    (hb : ∀ (kV doc pm : Value) (an : Option Addr) (cdv ct : Value) (us : List Value), us.length = 4 → bindArgs (PySem.W.fnOf "__init__" q (C8.fnArgs st) (C8.fnBody st) (C8.fnScope st) .none kV doc pm an cdv ct) ⟨us, []⟩ = pure (List.zip [("self" : Str), f0, f1, f2] us)) : Kc K mg n C W [f0, f1, f2] st :=
  kc_mk c (fun z => nomatch z) (fun f hf => by
    simp only [List.mem_cons, List.not_mem_nil, or_false] at hf
    rcases hf with rfl | rfl | rfl <;> assumption) i t l cc hb
theorem kc_mk0 (c : Cc K mg n C W) (x : PySem.W.excIn K C [.type "ValueError", .type "Exception", .type "BaseException", .type "object"] "ValueError.__new__" = true) : Kc0 K mg n C W := ⟨c, x⟩
theorem rk_mk {P : Program} {base : Heap} {fs : List Str} (k : Kc K mg n C W fs st)
    (ok : ∀ {f : Addr} {fd : FuncData} {q : Str}, OexC K C → (∀ f ∈ fs, PySem.W.findIn K (.ref C) f = some none) → C8.Fun K "__init__" q st f fd → FnOk P w K mg base C8.CX0 1 f fd (("self" : Str) :: fs) (sp_inx C fs)) : Rk P w K mg base n C fs := by
  obtain ⟨fI, fd, q, i, t, F, b⟩ := k.i
  exact ⟨⟨k.c.ec.g, k.c.ec.o, k.c.ec.x⟩, k.no, fI, fd, _, i, t, ok k.c.ec.o k.no F, b⟩
end
end
/-- an own class -/
structure Oc (K : PySem.W.Frag) (mg : Str → Option Value) (n : Str) (C fI : Addr) : Prop where
  g : mg n = some (.ref C)
  i : C8.InsC K C
  mI : Mk K C fI
section
variable {K : PySem.W.Frag} {h : Heap} {mg : Str → Option Value} {w : World}
theorem oc_mk {n : Str} {C fI : Addr} (X : K.In h) (G : h.Ns mainGlobals mg) (M : Mt K) (a : PySem.W.nsIn K mainGlobals n = some (some (.ref C)))
    (pg : PySem.W.plainGet K C Str.empty = true) (hd : PySem.W.hasDictIn K C = true) (po : PySem.W.plainOver K C = true) (sa : PySem.W.findIn K (.ref C) "__setattr__" = some (some (.builtin "object.__setattr__")))
    (e : PySem.W.findIn K (.ref C) "__class__" = some (some (.builtin "object.__class__"))) (m : PySem.W.mroIn K C (.type "object") = some true)
    (mk : PySem.W.makesIn K C = true) (i : PySem.W.findIn K (.ref C) "__init__" = some (some (.ref fI))) (fi : PySem.W.isFn K (.ref fI) = true) (kp : PySem.W.keepIn K (.ref C) = true) : Oc K mg n C fI where
  g := PySem.W.mg_of X G a
  i := ⟨⟨pg, hd, po, sa⟩, e, M.1, M.2, m, by unfold PySem.W.kitOne; exact if_pos (beq_self_eq_true _)⟩
  mI := ⟨mk, i, fi, kp⟩
theorem ca_mk {CR CD CG fR fD fG : Addr} (R : Oc K mg "Rule" CR fR) (D : Oc K mg "Reader" CD fD) (T : Oc K mg "Tongue" CG fG)
    (r1 : PySem.W.findIn K (.ref CR) "kind" = some none) (r2 : PySem.W.findIn K (.ref CR) "opener" = some none) (r3 : PySem.W.findIn K (.ref CR) "closer" = some none) (r4 : PySem.W.findIn K (.ref CR) "nested" = some none)
    (r5 : PySem.W.findIn K (.ref CR) "escape" = some none) (r6 : PySem.W.findIn K (.ref CR) "doubled" = some none) (r7 : PySem.W.findIn K (.ref CR) "line" = some none)
    (d1 : PySem.W.findIn K (.ref CD) "parts" = some none) (d2 : PySem.W.findIn K (.ref CD) "_marks" = some none)
    (g1 : PySem.W.findIn K (.ref CG) "text" = some none) (g2 : PySem.W.findIn K (.ref CG) "rules" = some none) (g3 : PySem.W.findIn K (.ref CG) "weight" = some none) (g4 : PySem.W.findIn K (.ref CG) "reader" = some none) : Ca K CR CD CG :=
  ⟨R.i, D.i, T.i, r1, r2, r3, r4, r5, r6, r7, d1, d2, g1, g2, g3, g4⟩
theorem eqc_mk {n : Str} {C fI fE N : Addr} {nm q : Str} {bs : List Value} {hdct : Bool} {sn : List Str} {sub : List Value} {ab : Bool} {col : Option Bool} {dd : Option Addr} {k0 k1 k2 k3 k5 : Option Value} {newId : String} (_ : Oc K mg n C fI)
    (l : K.lookup C = some (excClassObj nm q C N bs [.type "object"] hdct sn sub ab col dd k0 k1 k2 k3 k5 newId)) (no : PySem.W.nsOkIn K N = true) (e1 : PySem.W.nsIn K N "__eq__" = some (some (.ref fE))) (e2 : PySem.W.nsIn K N "__ne__" = some none) (e3 : PySem.W.findIn K (.ref C) "__eq__" = some (some (.ref fE))) (fe : PySem.W.isFn K (.ref fE) = true) : OwnC K C fE :=
  ⟨⟨nm, q, N, bs, hdct, sn, sub, ab, col, dd, k0, k1, k2, k3, k5, newId, l, no, e1, e2⟩, e3, fe⟩
theorem om_mk {n m : Str} {C fI f : Addr} (_ : Oc K mg n C fI) (a : PySem.W.findIn K (.ref C) m = some (some (.ref f))) (b : PySem.W.isFn K (.ref f) = true) : OwnM K C m f := ⟨a, b⟩
theorem g_mk {n : Str} {C : Addr} (X : K.In h) (G : h.Ns mainGlobals mg) (a : PySem.W.nsIn K mainGlobals n = some (some (.ref C))) : mg n = some (.ref C) := PySem.W.mg_of X G a
/-- what is known of the kinds of the errors -/
structure Xk (K : PySem.W.Frag) (CT CW CN : Addr) : Prop where
  ex : PySem.W.exmOne K (.ref CT) (.ref CT) = some true
  tw : PySem.W.kitOne K (.ref CT) (.ref CW) = some true
  tn : PySem.W.kitOne K (.ref CT) (.ref CN) = some false
  tv : PySem.W.kitOne K (.ref CT) (.type "ValueError") = some true
theorem xk_mk {CT CW CN : Addr} (_ : Cc K mg "BadText" CT CW) (_ : mg "BadNumber" = some (.ref CN)) (ex : PySem.W.exmOne K (.ref CT) (.ref CT) = some true) (tw : PySem.W.kitOne K (.ref CT) (.ref CW) = some true) (tn : PySem.W.kitOne K (.ref CT) (.ref CN) = some false) (tv : PySem.W.kitOne K (.ref CT) (.type "ValueError") = some true) : Xk K CT CW CN := ⟨ex, tw, tn, tv⟩
theorem cst_opt {n : Str} {d : Addr} {xs : List V} {its : Array Value} {sl : Array (Option Value)} {k : Nat} (X : K.In h) (G : h.Ns mainGlobals mg) (a : PySem.W.nsIn K mainGlobals n = some (some (.ref d))) (l : K.lookup d = some ⟨.type "tuple", none, .seq its k, sl⟩) (v : Vals xs its.toList) (z : its.size ≤ 100) :
    ∃ d, (∃ u, mg n = some u ∧ RelV (.ref d) u) ∧ (∀ H : Hp, SqT K H d xs) ∧ ∃ o, K.lookup d = some o ∧ o.cls = .type "tuple" ∧ o.dict = none := ⟨d, ⟨_, PySem.W.mg_of X G a, rfl⟩, fun _ => .inr ⟨_, its, k, l, rfl, rfl, szS2 z, v⟩, _, l, rfl, rfl⟩
theorem fn_mk {m q : Str} {st : Stmt} {ps : List Str} {f : Addr} {od an : Option Addr} {sl : Array (Option Value)} {oc kV dc pm cd ct : Value}
    (l : K.lookup f = some ⟨oc, od, .func (PySem.W.fnOf m q (C8.fnArgs st) (C8.fnBody st) (C8.fnScope st) .none kV dc pm an cd ct), sl⟩) (c : PySem.W.codeIn K cd q = true)
    (hb : ∀ (kV doc pm : Value) (an : Option Addr) (cdv ct : Value) (us : List Value), us.length = ps.length → bindArgs (PySem.W.fnOf m q (C8.fnArgs st) (C8.fnBody st) (C8.fnScope st) .none kV doc pm an cdv ct) ⟨us, []⟩ = pure (ps.zip us)) : ∃ (q : Str) (fd : FuncData), C8.Fun K m q st f fd ∧ Binds K fd ps [] := by
  have F : C8.Fun K m q st f (PySem.W.fnOf m q (C8.fnArgs st) (C8.fnBody st) (C8.fnScope st) .none kV dc pm an cd ct) := ⟨oc, od, .none, kV, dc, pm, an, cd, ct, sl, rfl, l, c⟩
  exact ⟨q, _, F, F.binds rfl hb⟩
theorem fnm_mk {m q : Str} {st : Stmt} {ps : List Str} {C f : Addr} {od an : Option Addr} {sl : Array (Option Value)} {oc kV dc pm cd ct : Value} (_ : PySem.W.findIn K (.ref C) m = some (some (.ref f)))
    (l : K.lookup f = some ⟨oc, od, .func (PySem.W.fnOf m q (C8.fnArgs st) (C8.fnBody st) (C8.fnScope st) .none kV dc pm an cd ct), sl⟩) (c : PySem.W.codeIn K cd q = true)
    (hb : ∀ (kV doc pm : Value) (an : Option Addr) (cdv ct : Value) (us : List Value), us.length = ps.length → bindArgs (PySem.W.fnOf m q (C8.fnArgs st) (C8.fnBody st) (C8.fnScope st) .none kV doc pm an cdv ct) ⟨us, []⟩ = pure (ps.zip us)) : ∃ (q : Str) (fd : FuncData), C8.Fun K m q st f fd ∧ Binds K fd ps [] := fn_mk l c hb
theorem cst_tup {n : Str} {d : Addr} {xs : List V} {its : Array Value} {od : Option Addr} {sl : Array (Option Value)} {k : Nat} (X : K.In h) (G : h.Ns mainGlobals mg) (a : PySem.W.nsIn K mainGlobals n = some (some (.ref d))) (l : K.lookup d = some ⟨.type "tuple", od, .seq its k, sl⟩) (v : Vals xs its.toList) (z : its.size ≤ 100) :
    ∃ d, (∃ u, mg n = some u ∧ RelV (.ref d) u) ∧ ∀ H : Hp, SqT K H d xs := ⟨d, ⟨_, PySem.W.mg_of X G a, rfl⟩, fun _ => .inr ⟨_, its, k, l, rfl, rfl, szS2 z, v⟩⟩
theorem fc_mk {x : Str} {st : Stmt} {ps : List Str} {f cc : Addr} {od an : Option Addr} {sl : Array (Option Value)} {oc kV dc pm ct : Value} (X : K.In h) (G : h.Ns mainGlobals mg) (a : PySem.W.nsIn K mainGlobals x = some (some (.ref f)))
    (l : K.lookup f = some ⟨oc, od, .func (PySem.W.fnOf x x (C8.fnArgs st) (C8.fnBody st) (C8.fnScope st) .none kV dc pm an (.ref cc) ct), sl⟩) (c : PySem.W.codeIn K (.ref cc) x = true) (k : PySem.W.keepIn K (.ref f) = true)
    (hb : ∀ (kV doc pm : Value) (an : Option Addr) (cdv ct : Value) (us : List Value), us.length = ps.length → bindArgs (PySem.W.fnOf x x (C8.fnArgs st) (C8.fnBody st) (C8.fnScope st) .none kV doc pm an cdv ct) ⟨us, []⟩ = pure (ps.zip us)) : ∃ (f : Addr) (fd : FuncData), FunC K mg x st f fd cc ∧ Binds K fd ps [] := by
  have F : C8.Fun K x x st f (PySem.W.fnOf x x (C8.fnArgs st) (C8.fnBody st) (C8.fnScope st) .none kV dc pm an (.ref cc) ct) := ⟨oc, od, .none, kV, dc, pm, an, _, ct, sl, rfl, l, c⟩
  exact ⟨f, _, ⟨⟨oc, od, .none, kV, dc, pm, an, ct, sl, rfl, l, c⟩, PySem.W.mg_of X G a, k⟩, F.binds rfl hb⟩
theorem tab_mk {x : Str} {f cc P0 : Addr} {fd : FuncData} {oc oc' : Value} {od od' : Option Addr} {sl sl' : Array (Option Value)} {vs : Array Value} (_ : K.In h) (a : PySem.W.nsIn K mainGlobals x = some (some (.ref f))) (l : K.lookup f = some ⟨oc, od, .func fd, sl⟩) (hc : fd.code = .ref cc)
    (l2 : K.lookup cc = some ⟨oc', od', .fields vs, sl'⟩) (hv : (vs[11]? : Option Value) = some (.ref P0)) : PySem.W.tabIn K x = some (cc, P0) := by
  unfold PySem.W.tabIn
  rw [a]
  dsimp only
  rw [l]
  dsimp only
  rw [hc]
  dsimp only
  rw [l2]
  dsimp only
  rw [hv]
theorem law_end10 {P : Program} {fa f cc P0 : Addr} {od an : Option Addr} {sl : Array (Option Value)} {oc kV dc pm cd ct : Value} (X : K.In h) (G : h.Ns mainGlobals mg) (hfa : mg "law" = some (.ref fa)) (tb : PySem.W.CodeHd h cc P0 ∧ h.get? P0 = some (PySem.W.tabObj #[])) (nP : K.lookup P0 = none)
    (a : PySem.W.nsIn K mainGlobals "law" = some (some (.ref f))) (lk : K.lookup f = some ⟨oc, od, .func (PySem.W.fnOf "law" "law" (C8.fnArgs s_law) (C8.fnBody s_law) (C8.fnScope s_law) .none kV dc pm an cd ct), sl⟩) (c : PySem.W.codeIn K cd "law" = true) (k : PySem.W.keepIn K (.ref f) = true)
    (ok : ∀ (base : Heap) (fd : FuncData), LamX.TabB base mg cc P0 → C8.Def K mg "law" s_law f fd → RunAt P w K mg base callerA f fd ["_law_script"] (sp_law K P0)) : LawG P w K 63 "_law_script" mg fa h := by
  have e := hfa.symm.trans (PySem.W.mg_of X G a)
  cases e
  exact ⟨_, cc, P0, sp_law K P0, tb.2, nP, tb.1, fun s v => .of_eq rfl, fun H a ns hl hH hS => ⟨a, ns, rfl, hS, hl, hH, fun _ => rfl⟩, fun base _ _ hT => ok base _ hT ⟨⟨oc, od, .none, kV, dc, pm, an, cd, ct, sl, rfl, lk, c⟩, PySem.W.mg_of X G a, k⟩⟩
end

end Vf

set_option maxRecDepth 100000
set_option maxHeartbeats 4000000
namespace Vf
open PySem PySem.Spec PyProof.Rows L2 SX
theorem all_ok {P : Program} {w : World} {K : PySem.W.Frag} {mg : Str → Option Value} {CT CW CN CR CD CG fR fD fG fE fL fN cc P0 : Addr} (T : Tx K w mg)
    (d_isMark : Dn K mg "is_mark" s_isMark ["word"])
    (d_optionCanStand : Dn K mg "option_can_stand" s_optionCanStand ["ahead", "word"])
    (d_canStand : Dn K mg "can_stand" s_canStand ["ahead", "word", "openers"])
    (d_wrongColumn : Dn K mg "wrong_column" s_wrongColumn ["line", "openers"])
    (d_readRules : Dn K mg "read_rules" s_readRules ["text"])
    (d_ruleWeight : Dn K mg "rule_weight" s_ruleWeight ["rule"])
    (d_pieceMarks : Dn K mg "piece_marks" s_pieceMarks ["rule", "number", "depth"])
    (d_pen : Dn K mg "_law_pen" s_pen ["_law_script"])
    (d_draw : Dn K mg "_law_draw" s_draw ["_law_pen_here", "_law_many"])
    (d_pick : Dn K mg "_law_pick" s_pick ["_law_pen_here", "_law_some_here"])
    (d_lawWord : Dn K mg "_law_word" s_lawWord ["_law_pen_here", "_law_signs", "_law_most"])
    (d_markSigns : Dn K mg "_law_mark_signs" s_markSigns [])
    (d_some : Dn K mg "_law_some" s_some ["_law_pen_here", "_law_items", "_law_many"])
    (d_ruleLine : Dn K mg "_law_rule_line" s_ruleLine ["_law_rule"])
    (d_newRule : Dn K mg "_law_new_rule" s_newRule ["_law_pen_here", "_law_mark", "_law_signs", "_law_most"])
    (d_newRules : Dn K mg "_law_new_rules" s_newRules ["_law_pen_here", "_law_many", "_law_most"])
    (d_allSigns : Dn K mg "_law_all_signs" s_allSigns [])
    (d_lawIsMark : Dn K mg "_law_is_mark" s_lawIsMark ["_law_word_here"])
    (d_optionStands : Dn K mg "_law_option_stands" s_optionStands ["_law_before", "_law_word_here"])
    (d_wordStands : Dn K mg "_law_word_stands" s_wordStands ["_law_before", "_law_word_here", "_law_openings"])
    (d_lawWrongColumn : Dn K mg "_law_wrong_column" s_lawWrongColumn ["_law_line", "_law_openings"])
    (d_firstWrong : Dn K mg "_law_first_wrong" s_firstWrong ["_law_lines"])
    (d_oddWords : Dn K mg "_law_odd_words" s_oddWords ["_law_marks"])
    (d_spoiled : Dn K mg "_law_spoiled" s_spoiled ["_law_pen_here", "_law_lines", "_law_marks"])
    (d_toldTongue : Dn K mg "_law_told_tongue" s_toldTongue ["_law_text", "_law_lines"])
    (oR : Oc K mg "Rule" CR fR) (oD : Oc K mg "Reader" CD fD) (oG : Oc K mg "Tongue" CG fG) (A0 : Ca K CR CD CG) (eE : OwnC K CG fE) (eL : OwnM K CG "__len__" fL) (eN : OwnM K CG "__iter__" fN)
    (n_Rule_init : ∃ (q : Str) (fd : FuncData), C8.Fun K "__init__" q s_Rule_init fR fd ∧ Binds K fd ["self", "words"] [])
    (n_Reader_init : ∃ (q : Str) (fd : FuncData), C8.Fun K "__init__" q s_Reader_init fD fd ∧ Binds K fd ["self", "rules"] [])
    (n_Tongue_init : ∃ (q : Str) (fd : FuncData), C8.Fun K "__init__" q s_Tongue_init fG fd ∧ Binds K fd ["self", "text"] [])
    (n_Tongue_eq : ∃ (q : Str) (fd : FuncData), C8.Fun K "__eq__" q s_Tongue_eq fE fd ∧ Binds K fd ["self", "other"] [])
    (n_Tongue_len : ∃ (q : Str) (fd : FuncData), C8.Fun K "__len__" q s_Tongue_len fL fd ∧ Binds K fd ["self"] [])
    (n_Tongue_iter : ∃ (q : Str) (fd : FuncData), C8.Fun K "__iter__" q s_Tongue_iter fN fd ∧ Binds K fd ["self"] [])
    (kT : Kc K mg "BadText" CT CW ["line", "column"] i_BadText) (gW : mg "WorkshopError" = some (.ref CW)) (gN : mg "BadNumber" = some (.ref CN)) (x : Xk K CT CW CN)
    (nA : ∃ (f : Addr) (fd : FuncData), FunC K mg "longest_first" s_longestFirst f fd cc ∧ Binds K fd ["marks"] []) (base : Heap) (TB : LamX.TabB base mg cc P0) {f : Addr} {fd : FuncData} (F : C8.Def K mg "law" s_law f fd) : RunAt P w K mg base callerA f fd ["_law_script"] (sp_law K P0) := by
  have ES : Es P w K mg base CT CW CN := { r_BadText := rk_mk kT ini_BadText, g_WorkshopError := gW, g_BadNumber := gN, ex := x.ex, ec := kT.c.ec.e, tw := x.tw, tn := x.tn, tv := x.tv }
  obtain ⟨q_Rule_init, fd_Rule_init, F_Rule_init, b_Rule_init⟩ := n_Rule_init
  obtain ⟨q_Reader_init, fd_Reader_init, F_Reader_init, b_Reader_init⟩ := n_Reader_init
  obtain ⟨q_Tongue_init, fd_Tongue_init, F_Tongue_init, b_Tongue_init⟩ := n_Tongue_init
  obtain ⟨q_Tongue_eq, fd_Tongue_eq, F_Tongue_eq, b_Tongue_eq⟩ := n_Tongue_eq
  obtain ⟨q_Tongue_len, fd_Tongue_len, F_Tongue_len, b_Tongue_len⟩ := n_Tongue_len
  obtain ⟨q_Tongue_iter, fd_Tongue_iter, F_Tongue_iter, b_Tongue_iter⟩ := n_Tongue_iter
  obtain ⟨f_isMark, fd_isMark, F_isMark, b_isMark⟩ := d_isMark
  have C_isMark := ok_isMark (P := P) (w := w) (base := base) F_isMark b_isMark T
  obtain ⟨f_optionCanStand, fd_optionCanStand, F_optionCanStand, b_optionCanStand⟩ := d_optionCanStand
  have C_optionCanStand := ok_optionCanStand (P := P) (w := w) (base := base) F_optionCanStand b_optionCanStand T
  obtain ⟨f_canStand, fd_canStand, F_canStand, b_canStand⟩ := d_canStand
  have C_canStand := ok_canStand (P := P) (w := w) (base := base) F_canStand b_canStand T C_isMark C_optionCanStand
  obtain ⟨f_wrongColumn, fd_wrongColumn, F_wrongColumn, b_wrongColumn⟩ := d_wrongColumn
  have C_wrongColumn := ok_wrongColumn (P := P) (w := w) (base := base) F_wrongColumn b_wrongColumn T C_canStand
  have M_Rule := ok_Rule_init (P := P) (w := w) (base := base) oR.mI oR.g F_Rule_init b_Rule_init T A0
  obtain ⟨f_readRules, fd_readRules, F_readRules, b_readRules⟩ := d_readRules
  have C_readRules := ok_readRules (P := P) (w := w) (base := base) F_readRules b_readRules T ES M_Rule A0 C_wrongColumn
  obtain ⟨f_ruleWeight, fd_ruleWeight, F_ruleWeight, b_ruleWeight⟩ := d_ruleWeight
  have C_ruleWeight := ok_ruleWeight (P := P) (w := w) (base := base) F_ruleWeight b_ruleWeight T A0
  obtain ⟨f_pieceMarks, fd_pieceMarks, F_pieceMarks, b_pieceMarks⟩ := d_pieceMarks
  have C_pieceMarks := ok_pieceMarks (P := P) (w := w) (base := base) F_pieceMarks b_pieceMarks T A0
  obtain ⟨f_l, fd_l, F_l, b_l⟩ := nA
  have C_longestFirst := ok_longestFirst (P := P) (w := w) (base := base) F_l b_l T TB
  have M_Reader := ok_Reader_init (P := P) (w := w) (base := base) oD.mI oD.g F_Reader_init b_Reader_init T A0 C_longestFirst C_pieceMarks
  have CX_Tongue := ok_Tongue_init (P := P) (w := w) (base := base) oG.mI oG.g F_Tongue_init b_Tongue_init T M_Reader A0 C_readRules C_ruleWeight
  have EQ := ok_Tongue_eq (P := P) (w := w) (base := base) eE oG.g F_Tongue_eq b_Tongue_eq T A0
  have LN := ok_Tongue_len (P := P) (w := w) (base := base) eL F_Tongue_len b_Tongue_len T A0
  have IT := ok_Tongue_iter (P := P) (w := w) (base := base) eN F_Tongue_iter b_Tongue_iter T A0
  obtain ⟨f_pen, fd_pen, F_pen, b_pen⟩ := d_pen
  have C_pen := ok_pen (P := P) (w := w) (base := base) F_pen b_pen T
  obtain ⟨f_draw, fd_draw, F_draw, b_draw⟩ := d_draw
  have C_draw := ok_draw (P := P) (w := w) (base := base) F_draw b_draw T
  obtain ⟨f_pick, fd_pick, F_pick, b_pick⟩ := d_pick
  have C_pick := ok_pick (P := P) (w := w) (base := base) F_pick b_pick T C_draw
  obtain ⟨f_lawWord, fd_lawWord, F_lawWord, b_lawWord⟩ := d_lawWord
  have C_lawWord := ok_lawWord (P := P) (w := w) (base := base) F_lawWord b_lawWord T C_draw C_pick
  obtain ⟨f_markSigns, fd_markSigns, F_markSigns, b_markSigns⟩ := d_markSigns
  have C_markSigns := ok_markSigns (P := P) (w := w) (base := base) F_markSigns b_markSigns T
  obtain ⟨f_some, fd_some, F_some, b_some⟩ := d_some
  have C_some := ok_some (P := P) (w := w) (base := base) F_some b_some T C_draw
  obtain ⟨f_ruleLine, fd_ruleLine, F_ruleLine, b_ruleLine⟩ := d_ruleLine
  have C_ruleLine := ok_ruleLine (P := P) (w := w) (base := base) F_ruleLine b_ruleLine T
  obtain ⟨f_newRule, fd_newRule, F_newRule, b_newRule⟩ := d_newRule
  have C_newRule := ok_newRule (P := P) (w := w) (base := base) F_newRule b_newRule T C_pick C_lawWord C_draw
  obtain ⟨f_newRules, fd_newRules, F_newRules, b_newRules⟩ := d_newRules
  have C_newRules := ok_newRules (P := P) (w := w) (base := base) F_newRules b_newRules T C_some C_draw C_markSigns C_lawWord C_newRule
  obtain ⟨f_allSigns, fd_allSigns, F_allSigns, b_allSigns⟩ := d_allSigns
  have C_allSigns := ok_allSigns (P := P) (w := w) (base := base) F_allSigns b_allSigns T C_markSigns
  obtain ⟨f_lawIsMark, fd_lawIsMark, F_lawIsMark, b_lawIsMark⟩ := d_lawIsMark
  have C_lawIsMark := ok_lawIsMark (P := P) (w := w) (base := base) F_lawIsMark b_lawIsMark T C_markSigns
  obtain ⟨f_optionStands, fd_optionStands, F_optionStands, b_optionStands⟩ := d_optionStands
  have C_optionStands := ok_optionStands (P := P) (w := w) (base := base) F_optionStands b_optionStands T C_lawIsMark
  obtain ⟨f_wordStands, fd_wordStands, F_wordStands, b_wordStands⟩ := d_wordStands
  have C_wordStands := ok_wordStands (P := P) (w := w) (base := base) F_wordStands b_wordStands T C_lawIsMark C_optionStands
  obtain ⟨f_lawWrongColumn, fd_lawWrongColumn, F_lawWrongColumn, b_lawWrongColumn⟩ := d_lawWrongColumn
  have C_lawWrongColumn := ok_lawWrongColumn (P := P) (w := w) (base := base) F_lawWrongColumn b_lawWrongColumn T C_wordStands
  obtain ⟨f_firstWrong, fd_firstWrong, F_firstWrong, b_firstWrong⟩ := d_firstWrong
  have C_firstWrong := ok_firstWrong (P := P) (w := w) (base := base) F_firstWrong b_firstWrong T C_lawWrongColumn
  obtain ⟨f_oddWords, fd_oddWords, F_oddWords, b_oddWords⟩ := d_oddWords
  have C_oddWords := ok_oddWords (P := P) (w := w) (base := base) F_oddWords b_oddWords T
  obtain ⟨f_spoiled, fd_spoiled, F_spoiled, b_spoiled⟩ := d_spoiled
  have C_spoiled := ok_spoiled (P := P) (w := w) (base := base) F_spoiled b_spoiled T C_draw C_pick C_oddWords C_allSigns
  obtain ⟨f_toldTongue, fd_toldTongue, F_toldTongue, b_toldTongue⟩ := d_toldTongue
  have CG_toldTongue := ok_toldTongue (P := P) (w := w) (base := base) F_toldTongue b_toldTongue T ES CX_Tongue EQ IT LN A0
  exact ok_law F T CG_toldTongue C_pen C_newRules C_draw C_ruleLine C_firstWrong C_spoiled
end Vf

open PySem PySem.W PyProof.Rows
set_option maxRecDepth 100000 in
set_option maxHeartbeats 0 in
theorem PySem.Challenge.cw_textworkshop_k10_tongues_refused_holds : PySem.Challenge.rw_textworkshop_k10_tongues_refused.Holds := by
  w_on; o_law; k_head; (case hw => w_witness2)
  k_fill
  refine Vf.walk_tabG (l := PySem.Challenge.rw_textworkshop_k10_tongues_refused) (n := 63) (x := "_law_script") rfl (by decide) rfl (fun w h Y => PySem.W.km_in_of Y) ?F
  case F =>
    intro w mg fa h TT KX G hmg
    obtain ⟨loose2, mean, mb, TT⟩ := TT
    refine' Vf.useIt (Vf.wc_mk (n := "WorkshopError") KX G ?a ?c ?k) (fun eW => ?_)
    (case a => k_is); (case c => k_is); (case k => k_is)
    refine' Vf.useIt (Vf.mt_mk KX ?n ?t) (fun eM => ?_)
    (case n => k_is); (case t => k_is)
    refine' Vf.useIt (Vf.cl_mk (n := "BadText") KX G eW eM ?a ?l ?s ?b ?y ?k ?g ?h ?d ?e ?m) (fun c_BadText => ?_)
    (case a => k_is); (case l => k_is); (case s => k_is); (case b => k_is); (case y => k_is); (case k => k_is); (case g => k_is); (case h => k_is); (case d => k_is); (case e => k_is); (case m => k_is)
    refine' Vf.useIt (Vf.kc_mk2 (st := Vf.i_BadText) c_BadText (f0 := "line") (f1 := "column") ?n0 ?n1 ?i ?t ?l ?c (fun _ _ _ _ _ _ us hl => match us, hl with | [_, _, _], _ => rfl)) (fun k_BadText => ?_)
    (case n0 => k_is); (case n1 => k_is); (case i => k_is); (case t => k_is); (case l => k_is); (case c => k_is)
    refine' Vf.useIt (Vf.g_mk (n := "BadNumber") KX G ?a) (fun gN => ?_)
    (case a => k_is)
    refine' Vf.useIt (Vf.xk_mk c_BadText gN ?ex ?tw ?tn ?tv) (fun XK => ?_)
    (case ex => kernel_rfl); (case tw => kernel_rfl); (case tn => kernel_rfl); (case tv => kernel_rfl)
    refine' Vf.useIt (Vf.oc_mk (n := "Rule") KX G eM ?a ?pg ?hd ?po ?sa ?e ?m ?mk ?i ?fi ?kp) (fun oR => ?_)
    (case a => k_is); (case pg => k_is); (case hd => k_is); (case po => k_is); (case sa => k_is); (case e => k_is); (case m => k_is); (case mk => k_is); (case i => k_is); (case fi => k_is); (case kp => k_is)
    refine' Vf.useIt (Vf.oc_mk (n := "Reader") KX G eM ?a ?pg ?hd ?po ?sa ?e ?m ?mk ?i ?fi ?kp) (fun oD => ?_)
    (case a => k_is); (case pg => k_is); (case hd => k_is); (case po => k_is); (case sa => k_is); (case e => k_is); (case m => k_is); (case mk => k_is); (case i => k_is); (case fi => k_is); (case kp => k_is)
    refine' Vf.useIt (Vf.oc_mk (n := "Tongue") KX G eM ?a ?pg ?hd ?po ?sa ?e ?m ?mk ?i ?fi ?kp) (fun oG => ?_)
    (case a => k_is); (case pg => k_is); (case hd => k_is); (case po => k_is); (case sa => k_is); (case e => k_is); (case m => k_is); (case mk => k_is); (case i => k_is); (case fi => k_is); (case kp => k_is)
    refine' Vf.useIt (Vf.ca_mk oR oD oG ?r1 ?r2 ?r3 ?r4 ?r5 ?r6 ?r7 ?d1 ?d2 ?g1 ?g2 ?g3 ?g4) (fun A0 => ?_)
    (case r1 => k_is); (case r2 => k_is); (case r3 => k_is); (case r4 => k_is); (case r5 => k_is); (case r6 => k_is); (case r7 => k_is); (case d1 => k_is); (case d2 => k_is); (case g1 => k_is); (case g2 => k_is); (case g3 => k_is); (case g4 => k_is)
    refine' Vf.useIt (Vf.eqc_mk oG ?l ?no ?e1 ?e2 ?e3 ?fe) (fun eE => ?_)
    (case l => k_is); (case no => first | k_is | kernel_rfl | rfl); (case e1 => k_is); (case e2 => k_is); (case e3 => k_is); (case fe => k_is)
    refine' Vf.useIt (Vf.om_mk (m := "__len__") oG ?a ?b) (fun eL => ?_)
    (case a => k_is); (case b => k_is)
    refine' Vf.useIt (Vf.om_mk (m := "__iter__") oG ?a ?b) (fun eN => ?_)
    (case a => k_is); (case b => k_is)
    refine' Vf.useIt (Vf.fnm_mk (m := "__init__") (st := Vf.s_Rule_init) (ps := ["self", "words"]) oR.mI.init ?l ?c (fun _ _ _ _ _ _ us hl => match us, hl with | [_, _], _ => rfl)) (fun n_Rule_init => ?_)
    (case l => k_is); (case c => k_is)
    refine' Vf.useIt (Vf.fnm_mk (m := "__init__") (st := Vf.s_Reader_init) (ps := ["self", "rules"]) oD.mI.init ?l ?c (fun _ _ _ _ _ _ us hl => match us, hl with | [_, _], _ => rfl)) (fun n_Reader_init => ?_)
    (case l => k_is); (case c => k_is)
    refine' Vf.useIt (Vf.fnm_mk (m := "__init__") (st := Vf.s_Tongue_init) (ps := ["self", "text"]) oG.mI.init ?l ?c (fun _ _ _ _ _ _ us hl => match us, hl with | [_, _], _ => rfl)) (fun n_Tongue_init => ?_)
    (case l => k_is); (case c => k_is)
    refine' Vf.useIt (Vf.fnm_mk (m := "__eq__") (st := Vf.s_Tongue_eq) (ps := ["self", "other"]) eE.hs ?l ?c (fun _ _ _ _ _ _ us hl => match us, hl with | [_, _], _ => rfl)) (fun n_Tongue_eq => ?_)
    (case l => k_is); (case c => k_is)
    refine' Vf.useIt (Vf.fnm_mk (m := "__len__") (st := Vf.s_Tongue_len) (ps := ["self"]) eL.hs ?l ?c (fun _ _ _ _ _ _ us hl => match us, hl with | [_], _ => rfl)) (fun n_Tongue_len => ?_)
    (case l => k_is); (case c => k_is)
    refine' Vf.useIt (Vf.fnm_mk (m := "__iter__") (st := Vf.s_Tongue_iter) (ps := ["self"]) eN.hs ?l ?c (fun _ _ _ _ _ _ us hl => match us, hl with | [_], _ => rfl)) (fun n_Tongue_iter => ?_)
    (case l => k_is); (case c => k_is)
    refine' Vf.useIt (Vf.dn_mk (x := "is_mark") (st := Vf.s_isMark) (ps := ["word"]) KX G ?a ?l ?c ?k (fun _ _ _ _ _ _ us hl => match us, hl with | [_], _ => rfl)) (fun d_isMark => ?_)
    (case a => k_is); (case l => k_is); (case c => k_is); (case k => k_is)
    refine' Vf.useIt (Vf.dn_mk (x := "option_can_stand") (st := Vf.s_optionCanStand) (ps := ["ahead", "word"]) KX G ?a ?l ?c ?k (fun _ _ _ _ _ _ us hl => match us, hl with | [_, _], _ => rfl)) (fun d_optionCanStand => ?_)
    (case a => k_is); (case l => k_is); (case c => k_is); (case k => k_is)
    refine' Vf.useIt (Vf.dn_mk (x := "can_stand") (st := Vf.s_canStand) (ps := ["ahead", "word", "openers"]) KX G ?a ?l ?c ?k (fun _ _ _ _ _ _ us hl => match us, hl with | [_, _, _], _ => rfl)) (fun d_canStand => ?_)
    (case a => k_is); (case l => k_is); (case c => k_is); (case k => k_is)
    refine' Vf.useIt (Vf.dn_mk (x := "wrong_column") (st := Vf.s_wrongColumn) (ps := ["line", "openers"]) KX G ?a ?l ?c ?k (fun _ _ _ _ _ _ us hl => match us, hl with | [_, _], _ => rfl)) (fun d_wrongColumn => ?_)
    (case a => k_is); (case l => k_is); (case c => k_is); (case k => k_is)
    refine' Vf.useIt (Vf.dn_mk (x := "read_rules") (st := Vf.s_readRules) (ps := ["text"]) KX G ?a ?l ?c ?k (fun _ _ _ _ _ _ us hl => match us, hl with | [_], _ => rfl)) (fun d_readRules => ?_)
    (case a => k_is); (case l => k_is); (case c => k_is); (case k => k_is)
    refine' Vf.useIt (Vf.dn_mk (x := "rule_weight") (st := Vf.s_ruleWeight) (ps := ["rule"]) KX G ?a ?l ?c ?k (fun _ _ _ _ _ _ us hl => match us, hl with | [_], _ => rfl)) (fun d_ruleWeight => ?_)
    (case a => k_is); (case l => k_is); (case c => k_is); (case k => k_is)
    refine' Vf.useIt (Vf.dn_mk (x := "piece_marks") (st := Vf.s_pieceMarks) (ps := ["rule", "number", "depth"]) KX G ?a ?l ?c ?k (fun _ _ _ _ _ _ us hl => match us, hl with | [_, _, _], _ => rfl)) (fun d_pieceMarks => ?_)
    (case a => k_is); (case l => k_is); (case c => k_is); (case k => k_is)
    refine' Vf.useIt (Vf.dn_mk (x := "_law_pen") (st := Vf.s_pen) (ps := ["_law_script"]) KX G ?a ?l ?c ?k (fun _ _ _ _ _ _ us hl => match us, hl with | [_], _ => rfl)) (fun d_pen => ?_)
    (case a => k_is); (case l => k_is); (case c => k_is); (case k => k_is)
    refine' Vf.useIt (Vf.dn_mk (x := "_law_draw") (st := Vf.s_draw) (ps := ["_law_pen_here", "_law_many"]) KX G ?a ?l ?c ?k (fun _ _ _ _ _ _ us hl => match us, hl with | [_, _], _ => rfl)) (fun d_draw => ?_)
    (case a => k_is); (case l => k_is); (case c => k_is); (case k => k_is)
    refine' Vf.useIt (Vf.dn_mk (x := "_law_pick") (st := Vf.s_pick) (ps := ["_law_pen_here", "_law_some_here"]) KX G ?a ?l ?c ?k (fun _ _ _ _ _ _ us hl => match us, hl with | [_, _], _ => rfl)) (fun d_pick => ?_)
    (case a => k_is); (case l => k_is); (case c => k_is); (case k => k_is)
    refine' Vf.useIt (Vf.dn_mk (x := "_law_word") (st := Vf.s_lawWord) (ps := ["_law_pen_here", "_law_signs", "_law_most"]) KX G ?a ?l ?c ?k (fun _ _ _ _ _ _ us hl => match us, hl with | [_, _, _], _ => rfl)) (fun d_lawWord => ?_)
    (case a => k_is); (case l => k_is); (case c => k_is); (case k => k_is)
    refine' Vf.useIt (Vf.dn_mk (x := "_law_mark_signs") (st := Vf.s_markSigns) (ps := []) KX G ?a ?l ?c ?k (fun _ _ _ _ _ _ us hl => match us, hl with | [], _ => rfl)) (fun d_markSigns => ?_)
    (case a => k_is); (case l => k_is); (case c => k_is); (case k => k_is)
    refine' Vf.useIt (Vf.dn_mk (x := "_law_some") (st := Vf.s_some) (ps := ["_law_pen_here", "_law_items", "_law_many"]) KX G ?a ?l ?c ?k (fun _ _ _ _ _ _ us hl => match us, hl with | [_, _, _], _ => rfl)) (fun d_some => ?_)
    (case a => k_is); (case l => k_is); (case c => k_is); (case k => k_is)
    refine' Vf.useIt (Vf.dn_mk (x := "_law_rule_line") (st := Vf.s_ruleLine) (ps := ["_law_rule"]) KX G ?a ?l ?c ?k (fun _ _ _ _ _ _ us hl => match us, hl with | [_], _ => rfl)) (fun d_ruleLine => ?_)
    (case a => k_is); (case l => k_is); (case c => k_is); (case k => k_is)
    refine' Vf.useIt (Vf.dn_mk (x := "_law_new_rule") (st := Vf.s_newRule) (ps := ["_law_pen_here", "_law_mark", "_law_signs", "_law_most"]) KX G ?a ?l ?c ?k (fun _ _ _ _ _ _ us hl => match us, hl with | [_, _, _, _], _ => rfl)) (fun d_newRule => ?_)
    (case a => k_is); (case l => k_is); (case c => k_is); (case k => k_is)
    refine' Vf.useIt (Vf.dn_mk (x := "_law_new_rules") (st := Vf.s_newRules) (ps := ["_law_pen_here", "_law_many", "_law_most"]) KX G ?a ?l ?c ?k (fun _ _ _ _ _ _ us hl => match us, hl with | [_, _, _], _ => rfl)) (fun d_newRules => ?_)
    (case a => k_is); (case l => k_is); (case c => k_is); (case k => k_is)
    refine' Vf.useIt (Vf.dn_mk (x := "_law_all_signs") (st := Vf.s_allSigns) (ps := []) KX G ?a ?l ?c ?k (fun _ _ _ _ _ _ us hl => match us, hl with | [], _ => rfl)) (fun d_allSigns => ?_)
    (case a => k_is); (case l => k_is); (case c => k_is); (case k => k_is)
    refine' Vf.useIt (Vf.dn_mk (x := "_law_is_mark") (st := Vf.s_lawIsMark) (ps := ["_law_word_here"]) KX G ?a ?l ?c ?k (fun _ _ _ _ _ _ us hl => match us, hl with | [_], _ => rfl)) (fun d_lawIsMark => ?_)
    (case a => k_is); (case l => k_is); (case c => k_is); (case k => k_is)
    refine' Vf.useIt (Vf.dn_mk (x := "_law_option_stands") (st := Vf.s_optionStands) (ps := ["_law_before", "_law_word_here"]) KX G ?a ?l ?c ?k (fun _ _ _ _ _ _ us hl => match us, hl with | [_, _], _ => rfl)) (fun d_optionStands => ?_)
    (case a => k_is); (case l => k_is); (case c => k_is); (case k => k_is)
    refine' Vf.useIt (Vf.dn_mk (x := "_law_word_stands") (st := Vf.s_wordStands) (ps := ["_law_before", "_law_word_here", "_law_openings"]) KX G ?a ?l ?c ?k (fun _ _ _ _ _ _ us hl => match us, hl with | [_, _, _], _ => rfl)) (fun d_wordStands => ?_)
    (case a => k_is); (case l => k_is); (case c => k_is); (case k => k_is)
    refine' Vf.useIt (Vf.dn_mk (x := "_law_wrong_column") (st := Vf.s_lawWrongColumn) (ps := ["_law_line", "_law_openings"]) KX G ?a ?l ?c ?k (fun _ _ _ _ _ _ us hl => match us, hl with | [_, _], _ => rfl)) (fun d_lawWrongColumn => ?_)
    (case a => k_is); (case l => k_is); (case c => k_is); (case k => k_is)
    refine' Vf.useIt (Vf.dn_mk (x := "_law_first_wrong") (st := Vf.s_firstWrong) (ps := ["_law_lines"]) KX G ?a ?l ?c ?k (fun _ _ _ _ _ _ us hl => match us, hl with | [_], _ => rfl)) (fun d_firstWrong => ?_)
    (case a => k_is); (case l => k_is); (case c => k_is); (case k => k_is)
    refine' Vf.useIt (Vf.dn_mk (x := "_law_odd_words") (st := Vf.s_oddWords) (ps := ["_law_marks"]) KX G ?a ?l ?c ?k (fun _ _ _ _ _ _ us hl => match us, hl with | [_], _ => rfl)) (fun d_oddWords => ?_)
    (case a => k_is); (case l => k_is); (case c => k_is); (case k => k_is)
    refine' Vf.useIt (Vf.dn_mk (x := "_law_spoiled") (st := Vf.s_spoiled) (ps := ["_law_pen_here", "_law_lines", "_law_marks"]) KX G ?a ?l ?c ?k (fun _ _ _ _ _ _ us hl => match us, hl with | [_, _, _], _ => rfl)) (fun d_spoiled => ?_)
    (case a => k_is); (case l => k_is); (case c => k_is); (case k => k_is)
    refine' Vf.useIt (Vf.dn_mk (x := "_law_told_tongue") (st := Vf.s_toldTongue) (ps := ["_law_text", "_law_lines"]) KX G ?a ?l ?c ?k (fun _ _ _ _ _ _ us hl => match us, hl with | [_, _], _ => rfl)) (fun d_toldTongue => ?_)
    (case a => k_is); (case l => k_is); (case c => k_is); (case k => k_is)
    refine' Vf.useIt (Vf.fc_mk (x := "longest_first") (st := Vf.s_longestFirst) (ps := ["marks"]) KX G ?a ?l ?c ?k (fun _ _ _ _ _ _ us hl => match us, hl with | [_], _ => rfl)) (fun nA => ?_)
    (case a => k_is); (case l => k_is); (case c => k_is); (case k => k_is)
    refine' Vf.useIt (Vf.tab_mk (x := "longest_first") KX ?a ?l ?fdc ?l2 ?vs11) (fun tab => ?_)
    (case a => k_is); (case l => k_is); (case fdc => rfl); (case l2 => k_is); (case vs11 => rfl)
    have tb := PySem.W.tab_of (x := "longest_first") TT KX rfl tab
    refine' Vf.useT (w := w) KX ⟨PySem.W.mg_none_of KX G ?z_int, PySem.W.mg_none_of KX G ?z_enumerate, PySem.W.mg_none_of KX G ?z_tuple, PySem.W.mg_none_of KX G ?z_len, PySem.W.mg_none_of KX G ?z_any, PySem.W.mg_none_of KX G ?z_all, PySem.W.mg_none_of KX G ?z_max, PySem.W.mg_none_of KX G ?z_range, PySem.W.mg_none_of KX G ?z_sorted, PySem.W.mg_none_of KX G ?z_sum, PySem.W.mg_none_of KX G ?z_iter, PySem.W.mg_none_of KX G ?z_isinstance, PySem.W.mg_none_of KX G ?z_list, PySem.W.mg_none_of KX G ?z_min, PySem.W.mg_none_of KX G ?z_str, PySem.W.mg_none_of KX G ?z_ValueError, PySem.W.mg_none_of KX G ?z_repr, Vf.cst_int KX G ?a_MOST_RULES, Vf.cst_int KX G ?a_LONGEST_MARK, Vf.cst_str KX G ?a_MARK_SIGNS ?e_MARK_SIGNS, Vf.cst_tup KX G ?a_KINDS ?l_KINDS ?v_KINDS ?s_KINDS, Vf.cst_tup KX G ?a_DEPTHS ?l_DEPTHS ?v_DEPTHS ?s_DEPTHS, Vf.cst_opt KX G ?a_OPTIONS ?l_OPTIONS ?v_OPTIONS ?s_OPTIONS, Vf.cst_tup KX G ?a_CODE ?l_CODE ?v_CODE ?s_CODE⟩ (fun T => ?_)
    (case z_int => k_is)
    (case z_enumerate => k_is)
    (case z_tuple => k_is)
    (case z_len => k_is)
    (case z_any => k_is)
    (case z_all => k_is)
    (case z_max => k_is)
    (case z_range => k_is)
    (case z_sorted => k_is)
    (case z_sum => k_is)
    (case z_iter => k_is)
    (case z_isinstance => k_is)
    (case z_list => k_is)
    (case z_min => k_is)
    (case z_str => k_is)
    (case z_ValueError => k_is)
    (case z_repr => k_is)
    (case a_MOST_RULES => k_is)
    (case a_LONGEST_MARK => k_is)
    (case a_MARK_SIGNS => k_is)
    (case e_MARK_SIGNS => decide +kernel)
    (case a_KINDS => k_is)
    (case l_KINDS => k_is)
    (case v_KINDS => exact .cons ⟨_, rfl⟩ (.cons ⟨_, rfl⟩ (.nil)))
    (case s_KINDS => decide)
    (case a_DEPTHS => k_is)
    (case l_DEPTHS => k_is)
    (case v_DEPTHS => exact .cons ⟨_, rfl⟩ (.cons ⟨_, rfl⟩ (.cons ⟨_, rfl⟩ (.nil))))
    (case s_DEPTHS => decide)
    (case a_OPTIONS => k_is)
    (case l_OPTIONS => k_is)
    (case v_OPTIONS => exact .cons ⟨_, rfl⟩ (.cons ⟨_, rfl⟩ (.cons ⟨_, rfl⟩ (.cons ⟨_, rfl⟩ (.nil)))))
    (case s_OPTIONS => decide)
    (case a_CODE => k_is)
    (case l_CODE => k_is)
    (case v_CODE => exact .cons ⟨_, rfl⟩ (.cons ⟨_, rfl⟩ (.cons ⟨_, rfl⟩ (.nil))))
    (case s_CODE => decide)
    refine' Vf.law_end10 KX G hmg tb ?nP ?a ?l ?c ?k (fun base fd TB F => Vf.all_ok T d_isMark d_optionCanStand d_canStand d_wrongColumn d_readRules d_ruleWeight d_pieceMarks d_pen d_draw d_pick d_lawWord d_markSigns d_some d_ruleLine d_newRule d_newRules d_allSigns d_lawIsMark d_optionStands d_wordStands d_lawWrongColumn d_firstWrong d_oddWords d_spoiled d_toldTongue oR oD oG A0 eE eL eN n_Rule_init n_Reader_init n_Tongue_init n_Tongue_eq n_Tongue_len n_Tongue_iter k_BadText eW.1 gN XK nA base TB F)
    (case nP => kernel_rfl); (case a => k_is); (case l => k_is); (case c => k_is); (case k => k_is)
