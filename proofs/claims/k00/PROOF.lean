import PyProof.Rows.All
import Wide.All
import OpenK.AllK
import Wide.FinOn
import HandS.ForMost
import HandS.Codes
import HandS.Wide
import HandS.ReplaceLit
import HandS.ReplaceDef
import HandS.IsInst
import HandS.More
import HandS.StrMore
import HandS.Flow
import HandS.Zip
import HandS.ExcInit
import HandS.ExcField
import HandS.ExcIs
import HandS.ExcOwn
import HandS.ExcValue
import PyProof.Draws
import HandS.Walk
import HandS.Style
import HandS.Deep
import HandS.TryOnly
import PyProof.StrLawsRepr
import PyProof.Rows.RegStrFacts
import PySem.Challenge.RW_textworkshop_k00_errors_and_signs
set_option Elab.async false
set_option linter.all false
set_option maxRecDepth 100000
set_option maxHeartbeats 4000000
namespace Vf
open PySem PySem.Spec PyProof.Rows L2 SX

/-! ### heaps: all but dicts stays -/
def Ks (H H' : Hp) : Prop := (∀ b o, H b = some o → (∀ kvs, o ≠ .dK kvs) → H' b = some o) ∧ ∀ b, H' b = none → H b = none
def Tk (H H' : Hp) : Prop := ∀ b xs, H b = some (.tup xs) → H' b = some (.tup xs)
section
variable {K : PySem.W.Frag} {H H1 H2 H0 : Hp} {a p q : Addr} {xs : List V} {o : HO}
theorem Ks.refl (H : Hp) : Ks H H := ⟨fun _ _ h _ => h, fun _ h => h⟩
theorem Ks.trans (a : Ks H H1) (b : Ks H1 H2) : Ks H H2 := ⟨fun c o h n => b.1 c o (a.1 c o h n) n, fun c h => a.2 c (b.2 c h)⟩
theorem Ks.of (s : Same H H1) : Ks H H1 := ⟨fun b o h _ => s b o h, fun b h => s.free h⟩
theorem Ks.tk (s : Ks H H1) : Tk H H1 := fun b xs h => s.1 b _ h (fun _ e => nomatch e)
theorem Ks.lst (s : Ks H H1) (h : H a = some (.lst xs)) : H1 a = some (.lst xs) := s.1 a _ h (fun _ e => nomatch e)
theorem Ks.tup (s : Ks H H1) (h : H a = some (.tup xs)) : H1 a = some (.tup xs) := s.1 a _ h (fun _ e => nomatch e)
theorem Ks.seq (s : Ks H H1) (h : SqL K H a xs) : SqL K H1 a xs := by
  rcases h with (h | ⟨o, h⟩) | h
  · exact .inl (.inl (s.1 _ _ h (fun _ e => nomatch e)))
  · exact .inl (.inr ⟨o, s.1 _ _ h (fun _ e => nomatch e)⟩)
  · exact .inr h
theorem Ks.seqT (s : Ks H H1) (h : SqT K H a xs) : SqT K H1 a xs := by
  rcases h with (h | ⟨o, h⟩) | h
  · exact .inl (.inl (s.1 _ _ h (fun _ e => nomatch e)))
  · exact .inl (.inr ⟨o, s.1 _ _ h (fun _ e => nomatch e)⟩)
  · exact .inr h
theorem Ks.free (s : Ks H H1) (h : H1 a = none) : H a = none := s.2 a h
theorem Ks.upd (s : Ks H0 H) (h : H0 p = none) (o : HO) : Ks H0 (upd H p o) := ⟨fun b u e n => by
  rw [upd_ne (ne_of_none e h)]
  exact s.1 b u e n, fun b e => by
  by_cases z : b = p
  · rw [z]; exact h
  · rw [upd_ne z] at e
    exact s.2 b e⟩
theorem Ks.new (s : Ks H0 H) (h : H p = none) (o : HO) : Ks H0 (L2.upd H p o) := s.upd (s.free h) o
theorem Ks.new1 (h : H p = none) (o : HO) : Ks H (L2.upd H p o) := (Ks.refl H).upd h o
theorem Ks.dict {kvs kvs' : List (Key × V)} (h : H p = some (.dK kvs)) : Ks H (L2.upd H p (.dK kvs')) := ⟨fun b u e n => by
  rw [upd_ne (fun z => by rw [z, h] at e; exact n kvs (Option.some.inj e).symm)]
  exact e, fun b e => by
  by_cases z : b = p
  · rw [z, upd_same] at e; cases e
  · rw [upd_ne z] at e; exact e⟩
theorem Tk.refl (H : Hp) : Tk H H := fun _ _ h => h
theorem Tk.trans (a : Tk H H1) (b : Tk H1 H2) : Tk H H2 := fun c xs h => b c xs (a c xs h)
theorem Tk.lst {ys : List V} (s : Tk H0 H) (h : H p = some (.lst ys)) : Tk H0 (L2.upd H p o) := fun b zs e => by
  have e1 := s b zs e
  rw [upd_ne (fun z => by rw [z, h] at e1; cases e1)]
  exact e1
theorem Tk.new (s : Tk H0 H) (h : H p = none) : Tk H0 (L2.upd H p o) := fun b zs e => by
  have e1 := s b zs e
  rw [upd_ne (ne_of_none e1 h)]
  exact e1
end
theorem szB {n : Nat} (h : n ≤ 1000000) : n ≤ sizeLine := Nat.le_trans h (by decide)
theorem szL {n : Nat} (h : n ≤ 1000000) : n < sizeLine := Nat.lt_of_le_of_lt h (by decide)
theorem sz24 {n : Nat} (h : n ≤ 1000000) : n ≤ 16777216 := Nat.le_trans h (by decide)

def signsL : List Nat := [10, 32, 33, 34, 35, 36, 38, 39, 40, 41, 42, 43, 44, 45, 46, 47, 48, 49, 50, 51, 52, 53, 54, 55, 56, 57, 58, 59, 60, 61, 62, 63, 64, 65, 66, 67, 68, 69, 70, 71, 72, 73, 74, 75, 76, 77, 78, 79, 80, 81, 82, 83, 84, 85, 86, 87, 88, 89, 90, 91, 92, 93, 94, 95, 96, 97, 98, 99, 100, 101, 102, 103, 104, 105, 106, 107, 108, 109, 110, 111, 112, 113, 114, 115, 116, 117, 118, 119, 120, 121, 122, 123, 124, 125, 126]
def lowL : List Nat := [97, 98, 99, 100, 101, 102, 103, 104, 105, 106, 107, 108, 109, 110, 111, 112, 113, 114, 115, 116, 117, 118, 119, 120, 121, 122]
def figL : List Nat := [48, 49, 50, 51, 52, 53, 54, 55, 56, 57]
/-! ### the pen: a dict of five entries -/
def pk (c : Addr) (at_ d ct fo : Int) : List (Key × V) := [(.inr "cells", .ref c), (.inr "at", .int at_), (.inr "digits", .int d), (.inr "count", .int ct), (.inr "fold", .int fo)]
def PenAt (H : Hp) (p c : Addr) (m : Nat) : Prop := ∃ (ns : List Int) (at_ d ct fo : Int), H p = some (.dK (pk c at_ d ct fo)) ∧ H c = some (.lst (ns.map V.int)) ∧ ns.length ≤ 63 ∧
  0 ≤ at_ ∧ 0 ≤ d ∧ 0 ≤ ct ∧ ct ≤ (m : Int) ∧ 0 ≤ fo ∧ fo < 2147483648
section
variable {H H1 : Hp} {p c q : Addr} {m n : Nat} {o : HO}
theorem PenAt.mono (h : PenAt H p c m) (l : m ≤ n) : PenAt H p c n := by
  obtain ⟨ns, a, d, t, f, h1, h2, h3, h4, h5, h6, h7, h8, h9⟩ := h
  exact ⟨ns, a, d, t, f, h1, h2, h3, h4, h5, h6, by omega, h8, h9⟩
theorem PenAt.upd (h : PenAt H p c m) (n1 : q ≠ p) (n2 : q ≠ c) : PenAt (L2.upd H q o) p c m := by
  obtain ⟨ns, a, d, t, f, h1, h2, r⟩ := h
  exact ⟨ns, a, d, t, f, by rw [upd_ne n1.symm]; exact h1, by rw [upd_ne n2.symm]; exact h2, r⟩
theorem PenAt.ne (h : PenAt H p c m) (e : H q = none) : q ≠ p ∧ q ≠ c := by
  obtain ⟨ns, a, d, t, f, h1, h2, r⟩ := h
  exact ⟨(ne_of_none h1 e).symm, (ne_of_none h2 e).symm⟩
theorem PenAt.new (h : PenAt H p c m) (e : H q = none) : PenAt (L2.upd H q o) p c m := h.upd (h.ne e).1 (h.ne e).2
theorem PenAt.same (h : PenAt H p c m) (s : Same H H1) : PenAt H1 p c m := by
  obtain ⟨ns, a, d, t, f, h1, h2, r⟩ := h
  exact ⟨ns, a, d, t, f, s _ _ h1, s _ _ h2, r⟩
end

section
variable {H : Hp} {p c : Addr} {a d t f z : Int}
theorem pg_cells (h : H p = some (.dK (pk c a d t f))) : DGet H p (.str "cells") (some (.ref c)) := .inl ⟨_, Sum.inr "cells", .inl h, rfl, rfl⟩
theorem pg_at (h : H p = some (.dK (pk c a d t f))) : DGet H p (.str "at") (some (.int a)) := .inl ⟨_, Sum.inr "at", .inl h, rfl, rfl⟩
theorem pg_digits (h : H p = some (.dK (pk c a d t f))) : DGet H p (.str "digits") (some (.int d)) := .inl ⟨_, Sum.inr "digits", .inl h, rfl, rfl⟩
theorem pg_count (h : H p = some (.dK (pk c a d t f))) : DGet H p (.str "count") (some (.int t)) := .inl ⟨_, Sum.inr "count", .inl h, rfl, rfl⟩
theorem pg_fold (h : H p = some (.dK (pk c a d t f))) : DGet H p (.str "fold") (some (.int f)) := .inl ⟨_, Sum.inr "fold", .inl h, rfl, rfl⟩
theorem pp_at (h : H p = some (.dK (pk c a d t f))) : DPut H p (.str "at") (.int z) (upd H p (.dK (pk c z d t f))) := .inl ⟨_, Sum.inr "at", h, rfl, szL (by show 5 ≤ 1000000; decide), rfl⟩
theorem pp_digits (h : H p = some (.dK (pk c a d t f))) : DPut H p (.str "digits") (.int z) (upd H p (.dK (pk c a z t f))) := .inl ⟨_, Sum.inr "digits", h, rfl, szL (by show 5 ≤ 1000000; decide), rfl⟩
theorem pp_count (h : H p = some (.dK (pk c a d t f))) : DPut H p (.str "count") (.int z) (upd H p (.dK (pk c a d z f))) := .inl ⟨_, Sum.inr "count", h, rfl, szL (by show 5 ≤ 1000000; decide), rfl⟩
theorem pp_fold (h : H p = some (.dK (pk c a d t f))) : DPut H p (.str "fold") (.int z) (upd H p (.dK (pk c a d t z))) := .inl ⟨_, Sum.inr "fold", h, rfl, szL (by show 5 ≤ 1000000; decide), rfl⟩
end

theorem ix_tupK {X : Cx} {K : PySem.W.Frag} (hK : X.K = K) : IxR X (rIxT K) := by subst hK; exact ix_tup
theorem ix_listK {X : Cx} {K : PySem.W.Frag} (hK : X.K = K) : IxR X (rIxL K) := by subst hK; exact ix_list
theorem ix_seqK {X : Cx} {K : PySem.W.Frag} (hK : X.K = K) : IxR X (rIx K) := by subst hK; exact ix_seq
theorem op_in_seqK {X : Cx} {K : PySem.W.Frag} (hK : X.K = K) : OpR X (compareOp .In) (rIn K false) := by subst hK; exact op_in_seq
theorem pe_c0 {X : Cx} {k j : Nat} {x : Str} {sp : Sp} {dvs : List V} {p pos : Pos} (c : C8.Cal X.prog X.w X.K X.mg X.base k x sp dvs) (hr : Room j X.A) (hk : k ≤ j) (hg : Gl X x) (hdb : (x == ("__debug__" : Str)) = false := by decide) :
    PE X (.Call (.Name x p) [] [] pos) (tCall sp dvs C8.E0 tNil) := by
  obtain ⟨f, fd, ps, ds, F, hm, kp, b, d⟩ := c.ex
  exact pe_call0 F (hr.mono hk) hg hm kp b d C8.pass0 hdb

/-! ### '..' * n -/
def repL (n : Nat) (l : List Nat) : List Nat := (List.replicate n l).flatten
theorem rep_nil : ∀ n : Nat, repL n [] = []
  | 0 => rfl
  | n + 1 => rep_nil n
theorem rep_len (l : List Nat) : ∀ n : Nat, (repL n l).length = n * l.length
  | 0 => by rw [Nat.zero_mul]; rfl
  | n + 1 => by
    show (l ++ repL n l).length = _
    rw [List.length_append, rep_len l n, Nat.succ_mul, Nat.add_comm]
theorem fold_rep (l acc : List Nat) : ∀ n : Nat, ((List.replicate n l.toArray).foldl (· ++ ·) acc.toArray) = (acc ++ repL n l).toArray
  | 0 => by
    show acc.toArray = (acc ++ []).toArray
    rw [List.append_nil]
  | n + 1 => by
    rw [List.replicate_succ, List.foldl_cons]
    rw [List.append_toArray acc l, fold_rep l (acc ++ l) n]
    unfold repL
    rw [List.replicate_succ, List.flatten_cons, List.append_assoc]
theorem op_rep_str {X : Cx} : OpR X (binaryOp .Mult) (fun x y H Q => ∃ (l : List Nat) (n : Nat), x = .str (S l) ∧ y = .int (n : Int) ∧ n ≤ 1000000 ∧ l.length * n ≤ 1000000 ∧ Q (.str (S (repL n l))) H) := by
  intro pins s σ H x y v u Q I rx ry h
  obtain ⟨l, n, rfl, rfl, hn, hl, q⟩ := h
  obtain ⟨t, rfl⟩ := rx
  obtain ⟨t', rfl⟩ := ry
  have e63 : (2 : Int) ^ 63 = 9223372036854775808 := by decide
  refine PySem.P.mul_str ?_ ?_ ?_ ?_
  · rw [decide_eq_false (by omega), decide_eq_false (by omega)]; rfl
  · intro h1 h2
    rw [S_len]
    have h3 : (1 : Int) ≤ n := by omega
    have h4 : (l.length : Int) * n ≤ 1000000 := by (rw [← Int.natCast_mul]; omega)
    have h5 : (l.length : Int) ≤ (2 ^ 63 - 1) / (n : Int) := by
      rw [Int.le_ediv_iff_mul_le (by omega)]
      omega
    omega
  · intro h1 h2
    rw [S_len]
    unfold Builtin.Str.tooLong
    have e : (sizeLine : Nat) = 16777216 := by decide
    rw [e]
    exact decide_eq_false (by rw [Int.toNat_natCast]; omega)
  · have r0 : repL 0 l = [] := rfl
    have r1 : repL 1 l = l := List.append_nil l
    by_cases c0 : n = 0
    · subst c0
      rw [if_pos (by decide)]
      exact ⟨by decide, ⟨.str (S (repL 0 l)), H, I.tok _, ⟨_, rfl⟩, q⟩⟩
    · rw [if_neg (by omega)]
      by_cases c1 : ((n : Int) == 1 || (S l).length == 0) = true
      · rw [if_pos c1]
        have er : repL n l = l := by
          rw [Bool.or_eq_true] at c1
          rcases c1 with c1 | c1
          · have : n = 1 := by
              have := of_decide_eq_true c1
              omega
            rw [this, r1]
          · rw [S_len] at c1
            have : l = [] := List.eq_nil_of_length_eq_zero (eq_of_beq c1)
            subst this
            exact rep_nil n
        rw [er] at q
        exact ⟨.str (S l), H, I, ⟨_, rfl⟩, q⟩
      · rw [if_neg c1]
        have e := fold_rep l [] n
        have e' : ((List.replicate n l.toArray).foldl (· ++ ·) #[]) = (repL n l).toArray := e
        have e2 : (n : Int).toNat = n := Int.toNat_natCast n
        have e3 : (⟨(List.replicate (n : Int).toNat (S l).cps).foldl (· ++ ·) #[]⟩ : Str) = S (repL n l) := by
          rw [e2]
          exact congrArg Str.mk e'
        rw [e3]
        have e24 : (sizeLine : Nat) = 16777216 := by decide
        refine ⟨?_, ⟨.str (S (repL n l)), H, I.tok _, ⟨_, rfl⟩, q⟩⟩
        have el := rep_len l n
        rw [S_len, el, e24, Nat.mul_comm]
        omega

/-! ### D.get(key, x) of a dict of the module, keys texts -/
def KD (K : PySem.W.Frag) (w : World) (d : Addr) (f : Str → Option V) : Prop := ∃ es n, K.lookup d = some ⟨.type "dict", none, .dict es n, #[]⟩ ∧ PySem.W.KeysLit w.params es.toList ∧ (d == sysModules) = false ∧ ∀ z, RelO (f z) (findBy Value.isStrOf es z)
def tKGet (K : PySem.W.Frag) (w : World) (td ty tx : TE) : TE := fun σ H Q => td σ H fun x H1 => ∃ d f, x = .ref d ∧ KD K w d f ∧ ty σ H1 fun y H2 => tx σ H2 fun z H3 => ∃ k, y = .str k ∧ Q ((f k).getD z) H3
theorem pe_kget {X : Cx} {o e f : Expr} {apos cpos : Pos} {td ty tx : TE} {K : PySem.W.Frag} {w : World} (hK : X.K = K) (hw : X.w = w) (ho : PE X o td) (he : PE X e ty) (hf : PE X f tx) (m : M2 X o "get" apos e f cpos) : PE X (.Call (.Attribute o "get" apos) [e, f] [] cpos) (tKGet K w td ty tx) := by
  subst hK hw
  refine ⟨fun pins s σ H Q I h => ?_⟩
  refine wpAny_Call_method m.base m.few m.line PySem.F.plainAttrs_dict PySem.F.slot_dict_get PySem.F.type_dict_get (thn (ho.run pins s σ H _ I h) fun u s1 ⟨x, H1, I1, rx, d, g, ex, ⟨es, n, hl, hk, low, hg⟩, q1⟩ => ?_)
  subst ex
  obtain rfl : u = Value.ref d := rx
  have hm := PySem.W.mapOf_K (prog := X.prog) (w := X.w) I1.kIn hl hk
  refine ⟨hm.typeIs, fun b q => ?_, ?_⟩
  · cases q
    exact ⟨_, I1.kIn _ _ hl, rfl⟩
  rw [m.trees]
  refine Calls.callWith_builtin rfl (Calls.evalArgs_plain (Calls.spliced_cons (thn (he.run pins s1 σ H1 _ I1 q1) fun iv s2 ⟨y, H2, I2, ry, q2⟩ =>
    Calls.spliced_cons (thn (hf.run pins s2 σ H2 _ I2 q2) fun fv s3 ⟨z, H3, I3, rz, k, ey, q3⟩ => Calls.spliced_nil ?_))))
  subst ey
  obtain ⟨t, rfl⟩ := ry
  have hm3 := PySem.W.mapOf_K (prog := X.prog) (w := X.w) I3.kIn hl hk
  refine call_meetsIn PySem.F.slot_dict_get hm3.typeIs PySem.F.entry_dict_get (PySem.F.args_dict_get_3 _ _ _) (meets_dict_get_default (strKind X.prog X.w) d (strKind_is X.prog X.w k t) low fv) ⟨_, hm3, ⟨_, H3, I3.tok _, ?_, q3⟩⟩
  exact (hg k).getD rz
end Vf

set_option maxRecDepth 100000
set_option maxHeartbeats 4000000
namespace Vf
open PySem PySem.Spec PyProof.Rows L2 SX
/-! ### a def called at one known place of the stack (its guards are known there) -/
def noE : XK := fun _ _ _ => False
def RunAt (P : Program) (w : World) (K : PySem.W.Frag) (mg : Str → Option Value) (base : Heap) (A : Around) (f : Addr) (fd : FuncData) (ps : List Str) (sp : Sp) : Prop :=
  ∀ (out : List Env) (s : Shared) (H : Hp) (g : Args) (us : List Value) (vs : List V) (Q : VK), Env0 P w K mg base A out s H →
    BindsTo s fd g (ps.zip us) → Vals vs us → sp vs H Q noE → codeAny (model P w) A (.call (.ref f) g) (CR C8.CX0 out P w H s Q noE) s
section
variable {P : Program} {w : World} {K : PySem.W.Frag} {mg : Str → Option Value} {base : Heap}
theorem keeps_of {A : Around} {out : List Env} {s : Shared} {H : Hp} (e : Env0 P w K mg base A out s H) {b : Addr} {o : Obj} (h : base.get? b = some o) : s.heap.get? b = some o := (e.bs b o h).1
theorem runAt_of {q : Str} {st : Stmt} {f : Addr} {fd : FuncData} {N ps : List Str} {k : Nat} {A : Around} {sp : Sp} (F : C8.Fun K x q st f fd)
    (S : FnScope N ps (C8.fnScope st)) (len : ∀ vs H Q E, sp vs H Q E → vs.length = ps.length) (hr : Room (k + 1) A)
    (hb : ∀ (c : Value) (out : List Env) (s : Shared) (H : Hp) (vs : List V) (Q : VK), sp vs H Q noE →
      ∃ t, PSs (cxOf C8.CX0 P w K mg base N q (C8.fnScope st) f c A out s H noE).nox (C8.fnBody st) t ∧ t { nx := fun _ h => Q .non h, rt := Q } (start N vs) H) :
    RunAt P w K mg base A f fd ps sp := by
  obtain ⟨oc, od, dV, kV, dc, pm, an, c, ct, sl, rfl, lk, hc⟩ := F.ex
  intro out s H g us vs Q e0 hbind r hsp
  have hn := len _ _ _ _ hsp
  have KX : K.In s.heap := e0.mod.kin.keeps fun _ _ z => keeps_of e0 z
  have lim := e0.mod.nolimit.keeps (h' := s.heap) fun _ _ z => keeps_of e0 z
  refine codeAny_call_function hr.depth (KX _ _ lk) rfl S.co S.gen rfl (PySem.W.codeRec_of KX hc) (hbind _ _ _ _ ?_)
  refine wpAny_newFunctionEnv_cells S.kind (fun y hy => ?_) fun env he s1 x1 => ?_
  · rcases S.par y.1 (List.of_mem_zip hy).1 with z | z
    · exact Or.inl z
    · exact Or.inr ⟨z, PySem.W.cellsFrom_some _ _ _ (Or.inl z)⟩
  · subst he
    refine ⟨lim.keeps x1.toInCall.keep, codeAny_func ?_⟩
    obtain ⟨t, ht, hq⟩ := hb c out s H vs Q hsp
    refine wpAny_mono (ht.nox.run [] s1 (start N vs) H _ (inv_start S hr.hd e0 hn r x1) hq) (fun fl s' hs => ?_) (fun _ _ hs => hs)
    rcases fl with u | _ | _ | _
    all_goals first
      | exact (by obtain ⟨v, σ', H', J, rv, z⟩ := hs; exact ⟨v, H', J.os, J.bare, J.base, J.hok, rv, z⟩)
      | exact (by obtain ⟨σ', H', J, z⟩ := hs; exact ⟨V.non, H', J.os, J.bare, J.base, J.hok, rfl, z⟩)
      | exact (by obtain ⟨_, _, _, z⟩ := hs; exact z.elim)
end
/-- a tracked script list, or one of the written part -/
def scrH (a : Addr) (o : Obj) (xs : List V) : Hp := fun b => if b = a then some (.frz o (.lst xs)) else none
section
variable {P : Program} {w : World} {K : PySem.W.Frag} {mg mb : Str → Option Value} {fa a : Addr} {fd : FuncData} {x : Str} {sp : Sp} {s : Shared} {ws : List Value} {ns : List Int}
def LawEnd (s : Shared) (r : Result) (z : Shared) : Prop := r = .ok (.ret (.bool true)) ∧ OldK s.heap z.heap ∧ z.os = s.os ∧ AllBare z.gens
theorem law_core (KX : K.In s.heap) (hn : s.heap.Ns mainGlobals mg) (hb : s.heap.Ns builtinsNs mb) (hbb : ∀ y : Str, y ≠ "__name__" → mb y = bootBuiltins y) (hl : s.heap.NoLimit) (hg : s.gens = #[])
    (ha : s.heap.get? a = some { cls := .type "list", data := .seq ws.toArray }) (F : ∀ b : Heap, K.In b → b.Ns mainGlobals mg → RunAt P w K mg b callerA fa fd [x] sp)
    (bind : ∀ (z : Shared) (u : Value), BindsTo z fd ⟨[u], []⟩ [(x, u)]) (H : Hp) (hO : Only H) (hS : sp [.ref a] H (fun v _ => v = .bl true) noE) (ok : HOk P w H s.heap)
    (hA : ∀ b, H b ≠ none → b = a) (hK : H a ≠ none → K.lookup a = none) : codeAny (model P w) callerA (.call (.ref fa) ⟨[.ref a], []⟩) (LawEnd s) s := by
  have at_a : ∀ {b : Addr} {u : HO}, H b = some u → b = a := fun {b u} z => hA b fun n => nomatch n.symm.trans z
  have dictN : ∀ {b : Addr} {o : Obj} {es : Array DictEntry} {ep : Nat}, s.heap.get? b = some o → o.data = .dict es ep → H b = none := fun {b o es ep} e d =>
    match q : H b with
    | none => rfl
    | some u => by
      cases at_a q
      cases ha.symm.trans e
      exact nomatch d
  have nsN : ∀ {b : Addr} {m : Str → Option Value}, s.heap.Ns b m → (hidT s.heap H).Ns b m := fun {b m} n => by
    obtain ⟨o, es, ep, e, d, r⟩ := n
    exact ⟨o, es, ep, hidT_get e (dictN e d), d, r⟩
  have kin : K.In (hidT s.heap H) := fun b o e => hidT_get (KX b o e) (match q : H b with
    | none => rfl
    | some u => by
      cases at_a q
      cases (hK fun n => nomatch n.symm.trans q).symm.trans e)
  have lim : (hidT s.heap H).NoLimit := by
    obtain ⟨mc, l1, l2⟩ := hl
    exact ⟨mc, nsN l1, l2⟩
  have e0 : Env0 P w K mg (hidT s.heap H) callerA [] s H := ⟨rfl, ⟨kin, nsN hn, ⟨mb, nsN hb, hbb⟩, lim⟩, fun _ _ e => of_hidT e, Nat.le_of_eq (hidT_size _ _), trivial, fun b z => absurd (show b ∈ ([] : List Addr) from z) List.not_mem_nil, ok, .of_eq hg⟩
  refine codeAny_mono (F _ kin (nsN hn) [] s H ⟨[.ref a], []⟩ [.ref a] [.ref a] _ e0 (bind s (.ref a)) (.cons rfl .nil) hS) fun r z h => ?_
  match r, h with
  | .error e, h => exact (show False from h).elim
  | .ok .next, h => exact (show False from h).elim
  | .ok .brk, h => exact (show False from h).elim
  | .ok .cont, h => exact (show False from h).elim
  | .ok (.ret u), h =>
    obtain ⟨v, H', os, bare, un, ok', rv, rfl⟩ := h
    cases (show u = Value.bool true from rv)
    refine ⟨rfl, OldK.of_keep fun b o e => ?_, os, bare⟩
    match q : H b with
    | none => exact un.keep b o e q (fun m => absurd (show b ∈ ([] : List Addr) from m) List.not_mem_nil) List.not_mem_nil
    | some u =>
      rcases hO b with n | ⟨ob, xs, n⟩
      · exact nomatch n.symm.trans q
      · have g1 := (ok b _ n).1
        have g2 := (ok' b _ (un.frzs b ob _ n)).1
        cases e.symm.trans g1
        exact g2
theorem law_callG (KX : K.In s.heap) (hn : s.heap.Ns mainGlobals mg) (hb : s.heap.Ns builtinsNs mb) (hbb : ∀ y : Str, y ≠ "__name__" → mb y = bootBuiltins y) (hl : s.heap.NoLimit) (hg : s.gens = #[])
    (ha : s.heap.get? a = some { cls := .type "list", data := .seq ws.toArray }) (hi : IntsAre ws ns) (hz : ns.length ≤ sizeLine) (F : ∀ b : Heap, K.In b → b.Ns mainGlobals mg → RunAt P w K mg b callerA fa fd [x] sp)
    (bind : ∀ (z : Shared) (u : Value), BindsTo z fd ⟨[u], []⟩ [(x, u)]) (hS : ∀ H : Hp, Only H → SqL K H a (ns.map V.int) → sp [.ref a] H (fun v _ => v = .bl true) noE) :
    codeAny (model P w) callerA (.call (.ref fa) ⟨[.ref a], []⟩) (LawEnd s) s := by
  have rv := vals_ints hi
  match hk : K.lookup a with
  | some o =>
    cases ha.symm.trans (KX a o hk)
    have so : Only (fun _ => none) := fun _ => .inl rfl
    exact law_core KX hn hb hbb hl hg ha F bind _ so (hS _ so (.inr ⟨_, ws.toArray, _, hk, rfl, rfl, rfl, by rw [List.size_toArray, hi.length]; exact hz, by simpa using rv⟩)) (fun _ u z => nomatch (show (none : Option HO) = some u from z)) (fun _ z => absurd rfl z) (fun z => absurd rfl z)
  | none =>
    have e1 : scrH a { cls := .type "list", data := .seq ws.toArray } (ns.map V.int) a = some (.frz { cls := .type "list", data := .seq ws.toArray } (.lst (ns.map V.int))) := if_pos rfl
    have e2 : ∀ {b : Addr}, b ≠ a → scrH a { cls := .type "list", data := .seq ws.toArray } (ns.map V.int) b = none := fun n => if_neg n
    have so : Only (scrH a { cls := .type "list", data := .seq ws.toArray } (ns.map V.int)) := fun b => by
      by_cases z : b = a
      · subst z; exact .inr ⟨_, _, e1⟩
      · exact .inl (e2 z)
    refine law_core KX hn hb hbb hl hg ha F bind _ so (hS _ so (.inl (.inr ⟨_, e1⟩))) (fun b u z => ?_) (fun b z => ?_) fun _ => hk
    · by_cases y : b = a
      · subst y
        cases e1.symm.trans z
        exact ⟨ha, by rw [List.length_map]; exact hz, ws, _, rv, ha⟩
      · exact nomatch (e2 y).symm.trans z
    · by_cases y : b = a
      · exact y
      · exact absurd (e2 y) z
end
section
variable {l : PySem.W.OpenLaw} {n : Nat} {q : Program} {loose : List Str} {XP : (Str → Option Value) → Heap → Prop} {YP : World → Heap → Prop} {d : DefRec} {K : Params → PySem.W.Frag} {sp : PySem.W.Frag → Sp} {x : Str}
theorem walk_ofG (hn : l.most = some n) (hz : n ≤ sizeLine) (hd : d.params.defaults = []) (hY : ∀ (w : World) (h : Heap), YP w h → (K w.params).In h)
    (F : ∀ (w : World) (mg : Str → Option Value) (fa : Addr) (h : Heap), (K w.params).In h → h.Ns mainGlobals mg → mg d.name = some (.ref fa) →
      ∃ fd : FuncData, (∀ (z : Shared) (u : Value), BindsTo z fd ⟨[u], []⟩ [(x, u)]) ∧ ∀ b : Heap, (K w.params).In b → b.Ns mainGlobals mg → RunAt l.prog w (K w.params) mg b callerA fa fd [x] (sp (K w.params)))
    (hS : ∀ (K : PySem.W.Frag) (H : Hp) (a : Addr) (ns : List Int), ns.length ≤ n → Only H → SqL K H a (ns.map V.int) → sp K [.ref a] H (fun v _ => v = .bl true) noE) :
    PySem.W.WalkO q loose XP YP l.row.toRowW d [] (fun f vs => PySem.call f vs) := by
  refine Att.attach_call hn hd fun w s0 s1 mg mb fa o pm c dc a vs ns G Y ho ht hc hm hobj hi hlen hg => ?_
  have KX := hY w _ Y
  obtain ⟨fd, hb, hF⟩ := F w mg fa _ KX G.T.g hm
  exact law_callG KX G.T.g G.T.b G.T.builtins G.T.nolimit hg hobj hi (Nat.le_trans hlen hz) hF hb fun H hO hL => hS _ H a ns hlen hO hL
end
/-! ### repr of data -/
def rRepr (K : PySem.W.Frag) : List V → Hp → VK → Prop := fun xs H Q => ∃ (a : Addr) (d : PyData), xs = [.ref a] ∧ Dp K H (.ref a) d ∧ d.showable = true ∧ d.hasDict = false ∧ d.depth ≤ 40 ∧ d.shown.length ≤ sizeLine ∧ Q (.str d.shown) H
theorem call_reprD {X : Cx} (hg : X.A.guards = some []) (hu : X.A.units + 64 < cLine) : CallR X (.builtin "repr") (rRepr X.K) := by
  intro pins s σ H xs us Q I r h
  obtain ⟨a, d, rfl, hd, hs, hn, hp, hl, q⟩ := h
  cases r with
  | @cons _ u _ _ ra rt =>
    cases rt
    obtain rfl : u = Value.ref a := ra
    obtain ⟨as, rd⟩ := Dp.reads I d _ _ hd rfl
    exact repr_of_reads' rd hs (fun z => absurd (hn.symm.trans z) (by decide)) hg (by omega) (fun _ _ e => e) (fun h' u tk k => ⟨.str d.shown, H, I.kept k, ⟨_, rfl⟩, q⟩) hl
end Vf

set_option maxRecDepth 100000
set_option maxHeartbeats 4000000
namespace Vf
open PySem PySem.Spec PyProof.Rows L2 SX
/-! ### an own exception as a value: made, its fields read, its class asked -/
/-- __class__ of an own exception, with or without a dict of its own -/
theorem cls_of_exc {prog : Program} {w : World} {A : Around} {E : Value → Shared → Prop} {s : Shared} {K : PySem.W.Frag} {e C : Addr} {oe : Obj} {od : Option Obj} {Q : Option Value → Shared → Prop} (T : ExcC K C)
    (X : K.In s.heap) (I : PySem.W.InstAt s.heap e oe C od) (q : Q (some (.ref C)) { s with toks := s.toks + 1 }) : wpAny (model prog w) A (getAttr? (.ref e) "__class__") Q E s := by
  have fnd : PySem.W.findObj K C od "__class__" = some (.bind (.builtin "getset_descriptor.__get__") (.builtin "object.__class__")) := by
    obtain ⟨cd, hc, _⟩ := PySem.W.any_some T.hd
    unfold PySem.W.findObj
    simp [hc, T.ha, T.hn, T.ht]
  have own : (Value.builtin "BaseException.__getattribute__" == Value.builtin "object.__getattribute__") = false := by decide +kernel
  obtain ⟨h0, g0, d0, t0, o0⟩ := s
  have j0 := I.type (M := model prog w)
  have j1 := PySem.W.looks_findIn (M := model prog w) X T.hg
  have j2 := PySem.W.looks_findIn (M := model prog w) X T.hk
  have j3 := PySem.W.looks_find (M := model prog w) X I fnd
  have sb : PySem.W.Looks (model prog w) h0 (isInstance (.ref e) (.type "BaseException")) true := j0.andThen (PySem.W.looks_subIn X T.hs)
  unfold getAttr? getAttrBy? getAttrBy
  iterate 1 refine wpAny_bind (wpAny_mkText ?_)
  refine wpAny_bind (wpAny_attempt (wpAny_holding ?_))
  refine wpAny_bind (j0.at (wpAny_bind (j1.at ?_)))
  refine (show wpAny _ _ (if (onTheHeap (Value.ref C) && (Value.builtin "BaseException.__getattribute__" == Value.builtin "object.__getattribute__")) = true then _ else _) _ _ _ from ?_)
  rw [own, Bool.and_false, if_neg Bool.false_ne_true]
  unfold getAttrByItsOwn hookBefore
  refine wpAny_bind ?_
  have hon : onTheHeap (Value.ref C) = true := rfl
  rw [if_pos hon]
  refine j2.at (wpAny_bind (wpAny_attempt (wpAny_holding ?_)))
  unfold callGetattribute
  have hno : ¬ (false && onTheHeap (Value.builtin "BaseException.__getattribute__")) = true := Bool.false_ne_true
  rw [if_neg hno]
  unfold boundAndCalled
  rw [F.excAttr_ValueError.ga.bind (.ref e)]
  refine wpAny_bind (wpAny_pure ?_)
  refine (show wpAny _ _ (call (.builtin "BaseException.__getattribute__") [.ref e, .str "__class__" t0]) _ _ _ from ?_)
  refine (wpAny_call (codeAny_call_builtin F.excAttr_ValueError.ga.plain F.entry_bexc_ga ?_))
  refine @PySem.W.check_slot (model prog w) _ _ ⟨h0, g0, d0, t0 + 1, o0⟩ "BaseException.__getattribute__" "BaseException" "__getattribute__"
    (.ref e) [.str "__class__" t0] [] _ (by decide +kernel) (by decide +kernel) sb (F.args_bexc_ga (.ref e) (.str "__class__" t0)) ?_
  unfold Builtin.«object.__getattribute__»
  refine wpAny_bind (wpAny_of_eq (a := ((Value.ref e : Value), [Value.str "__class__" t0])) (by first | rfl | (simp only [slotArgs]; rfl)) ?_)
  refine wpAny_bind (wpAny_pure (wpAny_bind (j0.at (wpAny_bind (j3.at ?_)))))
  refine (show wpAny _ _ (holding [Value.builtin "object.__class__"] (call (.builtin "getset_descriptor.__get__") [.builtin "object.__class__", .ref e, .ref C]) >>= ret) _ _ _ from ?_)
  refine wpAny_bind (wpAny_holding (wpAny_call (PySem.W.class_get (s := ⟨h0, g0, d0, t0 + 1, o0⟩) X I T.hm ?_)))
  refine wpAny_pure ?_
  refine (show wpAny _ _ (handedOut (.ref C)) _ _ _ from ?_)
  rw [PySem.W.handedOut_of (v := .ref C) rfl]
  first
    | exact wpAny_pure (wpAny_pure q)
    | exact wpAny_pure q
theorem kitx_exo {K : PySem.W.Frag} {e C : Addr} {oe : Obj} {od : Option Obj} (T : ExcC K C) : PySem.W.KitX K (.ref e) (.ref C) (fun h => PySem.W.InstAt h e oe C od) := by
  have Z : PySem.W.KitX K (.ref e) (.ref C) (fun h => PySem.W.InstAt h e oe C none) := PySem.W.handS_kitx_exc T.hg T.hk T.hs T.hd T.ha T.hn T.ht T.hm
  obtain ⟨cd, hc, _⟩ := PySem.W.any_some T.hd
  exact { ty := fun _ _ _ I => I.type
          it := fun M h X I A Q E s k q => by
            unfold PySem.W.clsIn at hc
            split at hc
            · rename_i c1 d1 cd1 sl1 ho
              unfold isType loadHead
              exact wpAny_bind (wpAny_loadPart (k _ _ (X _ _ ho)) (wpAny_pure q))
            · cases hc
          ne := fun h tp dd its n sl X htp => Bool.eq_false_iff.mpr fun z => by
            have ez : C = tp := Value.ref.inj (beq_iff_eq.mp z)
            subst ez
            unfold PySem.W.clsIn at hc
            split at hc
            · rename_i c1 d1 cd1 sl1 ho
              exact nomatch (X _ _ ho).symm.trans htp
            · cases hc
          ca := fun X I k => cls_of_exc T X I k }
/-- an own exception of the class at C, with these fields, at a (n: none as yet) -/
def ExAt (H : Hp) (a C : Addr) (fs : List (Str × V)) : Prop := (fs = [] ∧ H a = some (exo a C none)) ∨ ∃ d, H a = some (exo a C (some d)) ∧ H d = some (exd d fs)
theorem inst_of {P : Program} {w : World} {H : Hp} {h : Heap} {a C : Addr} {fs : List (Str × V)} (ok : HOk P w H h) (e : ExAt H a C fs) : ∃ (oe : Obj) (od : Option Obj), PySem.W.InstAt h a oe C od := by
  rcases e with ⟨_, e⟩ | ⟨d, e1, e2⟩
  · obtain ⟨t, g⟩ := exo_at ok e
    exact ⟨_, none, ⟨g, rfl, rfl, trivial⟩⟩
  · obtain ⟨t, g⟩ := exo_at ok e1
    obtain ⟨mA, ⟨o, es, ep, g2, _⟩, _⟩ := exd_at ok e2
    exact ⟨_, some o, ⟨g, rfl, rfl, g2⟩⟩
def rIsX (K : PySem.W.Frag) : List V → Hp → VK → Prop := fun xs H Q => ∃ (a C : Addr) (fs : List (Str × V)) (c : V) (u : Value) (b : Bool), xs = [.ref a, c] ∧ ExAt H a C fs ∧ ExcC K C ∧ ClsV c u ∧ PySem.W.kitOne K (.ref C) u = some b ∧ Q (.bl b) H
theorem call_isX {X : Cx} : CallR X (.builtin "isinstance") (rIsX X.K) := by
  intro pins s σ H xs us Q I r h
  obtain ⟨a, C, fs, c, u, b, rfl, ex, T, k, e, q⟩ := h
  obtain ⟨u1, u2, rfl, r1, r2⟩ := vals2 r
  cases k.eq r2
  obtain rfl : u1 = Value.ref a := r1
  obtain ⟨oe, od, J⟩ := inst_of I.hok ex
  exact PySem.W.kia_one (kitx_exo T) I.kIn J e (fun z => nomatch z) fun tk => ⟨.bl b, H, I.tok tk, rfl, q⟩
/-- e.f of such an exception -/
def tXa (K : PySem.W.Frag) (f : Str) (te : TE) : TE := fun σ H Q => te σ H fun x H1 => ∃ (a C : Addr) (fs : List (Str × V)) (v : V), x = .ref a ∧ XfC K C ∧ PySem.W.findIn K (.ref C) f = some none ∧ ExAt H1 a C fs ∧ fs.lookup f = some v ∧ Q v H1
theorem pe_xa {X : Cx} {e : Expr} {te : TE} {pos : Pos} {f : Str} (he : PE X e te) (hb : attributeBase e f X.env (eval e X.env) = eval e X.env := by rfl) : PE X (.Attribute e f pos) (tXa X.K f te) := by
  refine ⟨fun pins s σ H Q I h => attr_of hb (thn (he.run pins s σ H _ I h) fun u s1 ⟨x, H1, I1, rx, a, C, fs, v, ex, T, hno, ea, l, q⟩ => ?_)⟩
  subst ex
  obtain rfl : u = Value.ref a := rx
  rcases ea with ⟨z, _⟩ | ⟨d, e1, e2⟩
  · subst z; cases l
  obtain ⟨t, g⟩ := exo_at I1.hok e1
  obtain ⟨mA, hns, hr⟩ := exd_at I1.hok e2
  obtain ⟨od, ho, hl⟩ := lookIn_ns hns
  obtain ⟨y, hy, ry⟩ := RelO.some_of (v := v) (o := mA f) (by rw [← l]; exact hr f)
  exact HandSPX.exc_get I1.kIn ⟨g, rfl, rfl, ho⟩ T.ga T.gg T.exC (PySem.W.findObj_own T.hdC hno rfl (by rw [hl, hy])) (handed_of ry) ⟨v, H1, I1.tok _, ry, q⟩
/-- C(e, ..), C's own __init__ keeping sp: the new exception stays -/
def tMkx (R : List V → Hp → VK → Prop) (ta : TA) : TE := fun σ H Q => ta σ H fun vs H1 => R vs H1 Q
theorem pe_mkx {X : Cx} {R : List V → Hp → VK → Prop} {x : Str} {C fI : Addr} {k : Nat} {fd : FuncData} {ps : List Str} {sp : Sp} {e : Expr} {es : List Expr} {ta : TA} {p pos : Pos} (T : OexC X.K C) (iC : PySem.W.findIn X.K (.ref C) "__init__" = some (some (.ref fI)))
    (tI : PySem.W.typeIn X.K (.ref fI) = some (.type "function")) (F1 : FnOk X.prog X.w X.K X.mg X.base C8.CX0 k fI fd ps sp) (hr : Room (k + 1) X.A) (hb : Binds X.K fd ps []) (hg : Gl X x) (hm : X.mg x = some (.ref C)) (ha : PA X (e :: es) ta)
    (hR : ∀ vs H1 Q, R vs H1 Q → vs.length ≤ 1000 ∧ ∀ a, H1 a = none → sp (.ref a :: vs) (upd H1 a (exo a C none)) (fun v H2 => v = .non ∧ Q (.ref a) H2) noE)
    (hdb : (x == ("__debug__" : Str)) = false := by decide) (he : starEach (e :: es) X.env = (false, eval e X.env) :: starEach es X.env := by rfl) (hpl : (backTo pos (starEach es X.env)).any (·.1) = false := by rfl) :
    PE X (.Call (.Name x p) (e :: es) [] pos) (tMkx R ta) := by
  refine ⟨fun pins s σ H Q I h => ?_⟩
  obtain ⟨nm, q, N, bs, bm, sn, sub, ab, col, dd, k0, k1, k2, k3, k5, hC, hbm⟩ := T.cls
  refine wpAny_Call_Name_kw (ld_glob I hg hm ?_ hdb)
  refine PySem.W.callWith_K (h₀ := X.base) I.ok.mod.kin T.kC (thn (ha.run pos pins s σ H _ I h) fun us s1 ⟨vs, H1, I1, r1, q0⟩ => ⟨I1.kIn, ?_⟩) he hpl
  obtain ⟨hz, q1⟩ := hR _ _ _ q0
  refine (show wpAny _ _ (call (.ref C) us) _ _ _ from ?_)
  obtain ⟨hp, g, dr, tk, os⟩ := s1
  have top : hp.objs.size ≤ hp.objs.size + 1 := Nat.le_succ _
  have hn : H1 (hp.objs.size + 1) = none := I1.hok.fresh top
  have grow : ∀ b o, hp.get? b = some o → ((hp.push (PySem.W.kdv_tup us)).push (PySem.HandSPX.excO C hp.objs.size)).get? b = some o := fun b o z => Heap.get?_push_of_some _ (Heap.get?_push_of_some _ z)
  have I2 := I1.laid (t' := tk) (a := hp.objs.size + 1) (o := exo (hp.objs.size + 1) C none) (h' := (hp.push (PySem.W.kdv_tup us)).push (PySem.HandSPX.excO C hp.objs.size)) grow top (exo_ok (t1 := hp.objs.size) (by heap_get))
  have r2 : Vals (V.ref (hp.objs.size + 1) :: vs) (Value.ref (hp.objs.size + 1) :: us) := .cons rfl r1
  have hq := q1 (hp.objs.size + 1) hn
  have hl : (Value.ref (hp.objs.size + 1) :: us).length = ps.length := r2.length.symm.trans (F1.len _ _ _ _ hq)
  have hus : us.length ≤ sizeLine := Nat.le_trans (Nat.le_of_eq (Paired.length r1).symm) (Nat.le_trans hz (by rw [sizeLine_eq]; decide))
  have bd := hb ⟨(hp.push (PySem.W.kdv_tup us)).push (PySem.HandSPX.excO C hp.objs.size), g, dr, tk, os⟩ (Value.ref (hp.objs.size + 1) :: us) I2.kIn (by rw [List.append_nil]; exact hl)
  rw [List.append_nil] at bd
  refine wpAny_call (PySem.HandSPX.call_own F.excBase_ValueError (fun Y => PySem.HandSPX.refsVE_contains Y bm hbm) (I1.kIn _ _ hC) (PySem.W.looks_findIn I1.kIn iC) (fun self => PySem.W.bind_fn I1.kIn self tI) hus ?_)
  refine codeAny_mono (F1.run _ X.stack _ _ ⟨Value.ref (hp.objs.size + 1) :: us, []⟩ (Value.ref (hp.objs.size + 1) :: us) _ _ noE (hr.make C us []) (I2.env0.make C us []) bd r2 hq) fun r s' z => ?_
  match r, z with
  | .error _, z => exact (show False from z).elim
  | .ok .next, z => exact (show False from z).elim
  | .ok .brk, z => exact (show False from z).elim
  | .ok .cont, z => exact (show False from z).elim
  | .ok (.ret u), z =>
    obtain ⟨v, H2, I3, rv, ev, q2⟩ := I2.after z
    subst ev
    exact ⟨rv, .ref (hp.objs.size + 1), H2, I3, rfl, q2⟩
/-- C(), a class without own __init__ -/
theorem pe_mkx0 {X : Cx} {C : Addr} {x : Str} {p pos : Pos} (T : OexC X.K C) (q : PySem.W.excIn X.K C [.type "ValueError", .type "Exception", .type "BaseException", .type "object"] "ValueError.__new__" = true) (gC : X.mg x = some (.ref C)) (hg : Gl X x)
    (hdb : (x == ("__debug__" : Str)) = false := by decide) : PE X (.Call (.Name x p) [] [] pos) (fun σ H Q => ∀ a, H a = none → Q (.ref a) (upd H a (exo a C none))) := by
  refine ⟨fun pins s σ H Q I h => ?_⟩
  refine wpAny_Call_Name_kw (ld_glob I hg gC ?_ hdb)
  refine PySem.W.callWith_K0 I.kIn T.kC ?_
  obtain ⟨bm, N, nm, qn, bs, hdct, sn, sub, ab, col, dd, k0, k1, k2, k3, k5, mN, hC, hN, hni, OT⟩ := exc_obj I.kIn q
  refine wpAny_call_exc_subT F.excBase_ValueError OT hC hN hni (fun h' a hm => ?_) (Nat.zero_le _)
  have hn : H a = none := I.hok.gone hm.new
  obtain ⟨t, ht, _, _⟩ := hm.there
  exact ⟨.ref a, upd H a (exo a C none), I.laidN hm.keeps hm.new hn (exo_ok ht), rfl, h a hn⟩
end Vf

set_option maxRecDepth 100000
set_option maxHeartbeats 4000000
namespace Vf
open PySem PySem.Spec PyProof.Rows L2 SX
/-! ### enumerate of a text -/
def Ites (x : Str) : It := ⟨fun i _ => i < x.cps.size, fun i H v H' => ∃ T c, v = .ref T ∧ H T = none ∧ x.cps[i]? = some c ∧ H' = upd H T (.tup [.int (i : Nat), .str ⟨#[c]⟩]), fun i _ => i = x.cps.size⟩
def SignP (x : Str) (i : Nat) (v : Value) : Prop := ∃ c t, x.cps[i]? = some c ∧ v = .str ⟨#[c]⟩ t
theorem draws_str {P : Program} {w : World} {A : Around} (hd : A.handled = none) (it : Addr) (x : Str) (t : Tok) : Draws P w A it [it] x.cps.size (SignP x) (fun i h => h.IsStrIter it (strIterType x) x t i) := by
  unfold strIterType
  split
  · exact Draws.strAscii hd it x t
  · exact Draws.strWide hd it x t
theorem turn_enumS {P : Program} {w : World} {K : PySem.W.Frag} {es : List Expr} {kk : Nat} {tp : Pos} (e it : Addr) (x : Str) (t : Tok) :
    Turn P w K (.Tuple es kk tp) (Ites x) [e, it] e (fun i h => (∃ old, IsEnum h e it ((i : Nat) : Int) old) ∧ h.IsStrIter it (strIterType x) x t i ∧ e ≠ it) where
  mem := List.mem_cons_self ..
  obj := fun i h st b hb => by
    obtain ⟨⟨old, he⟩, ⟨o, ho, hc, hdd⟩, _⟩ := st
    rcases List.mem_cons.mp hb with rfl | hb
    · exact ⟨_, he, fun v q => nomatch q⟩
    · cases List.mem_singleton.mp hb
      exact ⟨o, ho, fun v q => nomatch hdd.symm.trans q⟩
  keep := fun i h h' st k => by
    obtain ⟨⟨old, he⟩, ⟨o, ho, r⟩, ne⟩ := st
    exact ⟨⟨old, k e (by simp) _ he⟩, ⟨o, k it (by simp) o ho, r⟩, ne⟩
  item := by
    intro X hP hw hK hc i pins s σ H E I hf st hg
    subst hP hw hK
    obtain ⟨⟨old, he⟩, hit, ne⟩ := st
    have le : e < s.heap.objs.size := Heap.lt_size he
    have li : it < s.heap.objs.size := by obtain ⟨_, q, _⟩ := hit; exact Heap.lt_size q
    refine wpAny_pyNext_enum_itemD (St := fun i h => h.IsStrIter it (strIterType x) x t i) (draws_str (A := X.A.in1) (I.ok.hd hc) it x t) he hit hg ne (fun z => ne (List.mem_singleton.mp z)) fun v h' tk pv ho hit' hT hsz hk => ?_
    obtain ⟨c, u, hcx, rfl⟩ := pv
    refine ⟨_, rfl, wpAny_letOwnedTupleGo_enum (s := { s with heap := h', toks := tk + 1 }) ho fun h2 he2 sb => ?_⟩
    have hT2 := (sb.2 _ (Nat.ne_of_gt le)).trans hT
    have new : ObjOk X.prog X.w (upd H s.heap.objs.size (.tup [.int (i : Nat), .str ⟨#[c]⟩])) h2 s.heap.objs.size (.tup [.int (i : Nat), .str ⟨#[c]⟩]) :=
      ⟨(by decide : 2 ≤ sizeLine), [.int i tk, .str ⟨#[c]⟩ u], .cons ⟨_, rfl⟩ (.cons ⟨_, rfl⟩ .nil), ⟨_, hT2, rfl, _, rfl⟩⟩
    have I1 : Inv X pins σ (upd H s.heap.objs.size (.tup [.int (i : Nat), .str ⟨#[c]⟩])) { s with heap := h2, toks := tk + 1 } :=
      I.turnedNew (ch := [e, it]) (fun b ob hb q => (sb.2 b (fun z => hb (by simp [z]))).trans (hk b ob (fun z => hb (by simp [z])) (fun z => hb (by simp [z])) q)) hf (Nat.le_refl _) new
    refine ⟨.ref s.heap.objs.size, _, I1, rfl, ⟨_, c, rfl, I.hok.fresh (Nat.le_refl _), hcx, rfl⟩, ⟨⟨.str ⟨#[c]⟩ u, ?_⟩, ?_, ne⟩, fun b hb => ?_⟩
    · rw [show ((i + 1 : Nat) : Int) = (i : Int) + 1 by omega]; exact he2
    · obtain ⟨oo, g1, g2⟩ := hit'
      exact ⟨oo, (sb.2 it (Ne.symm ne)).trans g1, g2⟩
    · have lb : b < s.heap.objs.size := by
        rcases List.mem_cons.mp hb with rfl | hb
        · exact le
        · cases List.mem_singleton.mp hb; exact li
      rw [upd_ne (Nat.ne_of_lt lb)]
      exact (hf b hb).1
  done := by
    intro X hP hw hK hc i pins s σ H E I hf st hg
    subst hP hw hK
    obtain ⟨⟨old, he⟩, hit, ne⟩ := st
    obtain rfl : i = x.cps.size := hg
    obtain ⟨f0, f1, f2, f3, f4, f5⟩ := hf it (by simp)
    exact wpAny_pyNext_enum_endD (St := fun i h => h.IsStrIter it (strIterType x) x t i) (draws_str (A := X.A.in1) (I.ok.hd hc) it x t) he hit fun h' eb => ⟨rfl, I.turned (t' := s.toks) (fun b o hb q => eb b o hb q) f0 f1 f3 f4 f5⟩
  self := fun A i s Q E st h => by
    obtain ⟨⟨_, he⟩, _⟩ := st
    exact wpAny_pyIter_enum he h
def iEnumS (ta : TA) : TI := fun σ H R => ta σ H fun vs H1 => ∃ x, vs = [.str x] ∧ R (Ites x) H1
theorem pi_enumS {X : Cx} {e : Expr} {ta : TA} {p pos tpos : Pos} {es : List Expr} {kk : Nat} (hg : Gl X "enumerate") (hm : X.mg "enumerate" = none) (ha : PA X [e] ta) (hs : starEach [e] X.env = [(false, eval e X.env)] := by rfl) :
    PI X (.Tuple es kk tpos) (.Call (.Name "enumerate" p) [e] [] pos) (iEnumS ta) := by
  refine ⟨fun pins s σ H R I h => ?_⟩
  refine Call_ (ld_blt I hg hm boot_enumerate (PyProof.Rows.callWith_type1 (thn (ha.run pos pins s σ H _ I h) fun us s1 ⟨vs, H1, I1, r1, q1⟩ => ?_) hs rfl))
  obtain ⟨x, rfl, q⟩ := q1
  cases r1 with
  | cons r rr =>
    cases rr
    obtain ⟨t, rfl⟩ := r
    refine call_enumerate_str fun h' he hit hz hk => wpAny_pyIter_enum he ?_
    refine ⟨s1.heap.objs.size + 1, [s1.heap.objs.size + 1, s1.heap.objs.size], _, _, H1, rfl, I1.kept (t' := s1.toks) hk, turn_enumS (s1.heap.objs.size + 1) s1.heap.objs.size x t, ⟨⟨.none, he⟩, hit, Nat.succ_ne_self _⟩, fun b hb => ?_, q⟩
    have le : s1.heap.objs.size ≤ b := by
      rcases List.mem_cons.mp hb with rfl | hb
      · exact Nat.le_succ _
      · cases List.mem_singleton.mp hb; exact Nat.le_refl _
    exact I1.fpOk le (I1.hok.fresh le)
theorem walk_enumS {x : Str} : Walk (Ites x) x.cps.size (fun _ => True) (fun i H v H' => ∃ T c, v = .ref T ∧ H T = none ∧ x.cps[i]? = some c ∧ H' = upd H T (.tup [.int (i : Nat), .str ⟨#[c]⟩])) :=
  ⟨fun i H h _ => h, fun _ _ => rfl, fun i H v H' _ _ y => y⟩
end Vf

set_option maxRecDepth 100000
set_option maxHeartbeats 4000000
namespace Vf
open PySem PySem.Spec PyProof.Rows L2 SX

def topS (i : Nat) : Stmt := PySem.Challenge.pw_textworkshop_k00_errors_and_signs.main.body.getD i (.Pass ⟨0, 0, 0, 0⟩)
abbrev s_allSigns : Stmt := topS 3
def N_allSigns : List Str := []
theorem sc_allSigns : FnScope N_allSigns [] (C8.fnScope s_allSigns) := C8.fnScope_by (by decide +kernel)
abbrev s_isSign : Stmt := topS 4
def N_isSign : List Str := ["value"]
theorem sc_isSign : FnScope N_isSign ["value"] (C8.fnScope s_isSign) := C8.fnScope_by (by decide +kernel)
abbrev s_isText : Stmt := topS 5
def N_isText : List Str := ["value", "sign"]
theorem sc_isText : FnScope N_isText ["value"] (C8.fnScope s_isText) := C8.fnScope_by (by decide +kernel)
abbrev s_isWord : Stmt := topS 6
def N_isWord : List Str := ["value"]
theorem sc_isWord : FnScope N_isWord ["value"] (C8.fnScope s_isWord) := C8.fnScope_by (by decide +kernel)
abbrev s_linesOf : Stmt := topS 7
def N_linesOf : List Str := ["text"]
theorem sc_linesOf : FnScope N_linesOf ["text"] (C8.fnScope s_linesOf) := C8.fnScope_by (by decide +kernel)
abbrev s_textOf : Stmt := topS 8
def N_textOf : List Str := ["lines"]
theorem sc_textOf : FnScope N_textOf ["lines"] (C8.fnScope s_textOf) := C8.fnScope_by (by decide +kernel)
abbrev s_lineStarts : Stmt := topS 9
def N_lineStarts : List Str := ["text", "starts", "place", "sign"]
theorem sc_lineStarts : FnScope N_lineStarts ["text"] (C8.fnScope s_lineStarts) := C8.fnScope_by (by decide +kernel)
abbrev s_pen : Stmt := topS 39
def N_pen : List Str := ["_law_script", "_law_fold", "_law_cell"]
theorem sc_pen : FnScope N_pen ["_law_script"] (C8.fnScope s_pen) := C8.fnScope_by (by decide +kernel)
abbrev s_draw : Stmt := topS 40
def N_draw : List Str := ["_law_pen_here", "_law_many", "_law_cell", "_law_digit", "_law_mixed"]
theorem sc_draw : FnScope N_draw ["_law_pen_here", "_law_many"] (C8.fnScope s_draw) := C8.fnScope_by (by decide +kernel)
abbrev s_pick : Stmt := topS 41
def N_pick : List Str := ["_law_pen_here", "_law_some"]
theorem sc_pick : FnScope N_pick ["_law_pen_here", "_law_some"] (C8.fnScope s_pick) := C8.fnScope_by (by decide +kernel)
abbrev s_lawWord : Stmt := topS 42
def N_lawWord : List Str := ["_law_pen_here", "_law_signs", "_law_most", "_law_k"]
theorem sc_lawWord : FnScope N_lawWord ["_law_pen_here", "_law_signs", "_law_most"] (C8.fnScope s_lawWord) := C8.fnScope_by (by decide +kernel)
abbrev s_lawText : Stmt := topS 43
def N_lawText : List Str := ["_law_pen_here", "_law_signs", "_law_most", "_law_k"]
theorem sc_lawText : FnScope N_lawText ["_law_pen_here", "_law_signs", "_law_most"] (C8.fnScope s_lawText) := C8.fnScope_by (by decide +kernel)
abbrev s_told : Stmt := topS 44
def N_told : List Str := ["_law_error", "_law_rows", "_law_both", "_law_k"]
theorem sc_told : FnScope N_told ["_law_error"] (C8.fnScope s_told) := C8.fnScope_by (by decide +kernel)
abbrev s_firstErrors : Stmt := topS 45
def N_firstErrors : List Str := ["_law_a", "_law_b", "_law_c", "_law_one", "_law_two", "_law_three", "_law_many", "_law_word_here", "_law_step", "_law_heavy", "_law_found", "_law_four"]
theorem sc_firstErrors : FnScope N_firstErrors ["_law_a", "_law_b", "_law_c"] (C8.fnScope s_firstErrors) := C8.fnScope_by (by decide +kernel)
abbrev s_otherErrors : Stmt := topS 46
def N_otherErrors : List Str := ["_law_a", "_law_b", "_law_one", "_law_two", "_law_three", "_law_four", "_law_found"]
theorem sc_otherErrors : FnScope N_otherErrors ["_law_a", "_law_b"] (C8.fnScope s_otherErrors) := C8.fnScope_by (by decide +kernel)
abbrev s_lawSigns : Stmt := topS 47
def N_lawSigns : List Str := ["_law_letters"]
theorem sc_lawSigns : FnScope N_lawSigns [] (C8.fnScope s_lawSigns) := C8.fnScope_by (by decide +kernel)
abbrev s_areSignsRight : Stmt := topS 48
def N_areSignsRight : List Str := ["_law_pen_here", "_law_signs", "_law_value", "_law_text_here", "_law_sign", "_law_k"]
theorem sc_areSignsRight : FnScope N_areSignsRight ["_law_pen_here"] (C8.fnScope s_areSignsRight) := C8.fnScope_by (by decide +kernel)
abbrev s_areLinesRight : Stmt := topS 49
def N_areLinesRight : List Str := ["_law_pen_here", "_law_text_here", "_law_lines", "_law_starts", "_law_place"]
theorem sc_areLinesRight : FnScope N_areLinesRight ["_law_pen_here"] (C8.fnScope s_areLinesRight) := C8.fnScope_by (by decide +kernel)
abbrev s_law : Stmt := topS 50
def N_law : List Str := ["_law_script", "_law_pen_here", "_law_turn", "_law_some", "_law_a", "_law_b", "_law_c", "_law_number", "_law_error", "_law_told_here", "_law_due", "_law_k"]
theorem sc_law : FnScope N_law ["_law_script"] (C8.fnScope s_law) := C8.fnScope_by (by decide +kernel)
structure Tx (K : PySem.W.Frag) (w : World) (mg : Str → Option Value) : Prop where
  z_len : mg "len" = none
  z_str : mg "str" = none
  z_isinstance : mg "isinstance" = none
  z_all : mg "all" = none
  z_tuple : mg "tuple" = none
  z_enumerate : mg "enumerate" = none
  z_int : mg "int" = none
  z_list : mg "list" = none
  z_range : mg "range" = none
  z_ValueError : mg "ValueError" = none
  z_min : mg "min" = none
  z_repr : mg "repr" = none
  g_SIGNS : ∃ u, mg "SIGNS" = some u ∧ RelV (.str (S signsL)) u
  g_LONGEST_WORD : ∃ u, mg "LONGEST_WORD" = some u ∧ RelV (.int 6) u
end Vf

set_option maxRecDepth 100000
set_option maxHeartbeats 4000000
namespace Vf
open PySem PySem.Spec PyProof.Rows L2 SX
/-- __init__ that stores its arguments under these names -/
def sp_init (C : Addr) (fs : List Str) : Sp := fun xs H Q _ => ∃ (a : Addr) (ys : List V), xs = .ref a :: ys ∧ ys.length = fs.length ∧ H a = some (exo a C none) ∧
  ∀ H2, ExAt H2 a C (fs.zip ys).reverse → (∀ b o, b ≠ a → H b = some o → H2 b = some o) → (∀ b, H2 b = none → H b = none) → Q .non H2
/-- an own exception class of the module under the name n -/
structure Ec (K : PySem.W.Frag) (mg : Str → Option Value) (n : Str) (C : Addr) : Prop where
  g : mg n = some (.ref C)
  o : OexC K C
  e : ExcC K C
  x : XfC K C
/-- .. with its __init__ (or none) -/
structure Ek (P : Program) (w : World) (K : PySem.W.Frag) (mg : Str → Option Value) (base : Heap) (n : Str) (C : Addr) (fs : List Str) : Prop where
  ec : Ec K mg n C
  no : ∀ f ∈ fs, PySem.W.findIn K (.ref C) f = some none
  ini : fs ≠ [] → ∃ (fI : Addr) (fd : FuncData) (ps : List Str), PySem.W.findIn K (.ref C) "__init__" = some (some (.ref fI)) ∧ PySem.W.typeIn K (.ref fI) = some (.type "function") ∧ FnOk P w K mg base C8.CX0 1 fI fd ps (sp_init C fs) ∧ Binds K fd ps []
  bare : fs = [] → PySem.W.excIn K C [.type "ValueError", .type "Exception", .type "BaseException", .type "object"] "ValueError.__new__" = true
theorem pe_cls {X : Cx} {n : Str} {C : Addr} {p : Pos} (g : X.mg n = some (.ref C)) (hg : Gl X n) (hd : (n == ("__debug__" : Str)) = false := by decide) : PE X (.Name n p) (tC (.ref C)) := C8.pe_gc hg ⟨_, g, rfl⟩ hd
/-- C(e, ..) of such a class -/
def tEk (C : Addr) (fs : List Str) (ta : TA) : TE := fun σ H Q => ta σ H fun vs H1 => vs.length = fs.length ∧ ∀ a H2, H1 a = none → Same H1 H2 → (∀ b, H2 b = none → H1 b = none) → ExAt H2 a C (fs.zip vs).reverse → Q (.ref a) H2
theorem pe_ek {X : Cx} {n g : Str} {C : Addr} {fs : List Str} {j : Nat} {e : Expr} {es : List Expr} {ta : TA} {p pos : Pos} (E : Ek X.prog X.w X.K X.mg X.base n C (g :: fs)) (hr : Room j X.A) (hj : 2 ≤ j) (hg : Gl X n) (ha : PA X (e :: es) ta) (hf : fs.length < 100 := by decide)
    (hdb : (n == ("__debug__" : Str)) = false := by decide) (he : starEach (e :: es) X.env = (false, eval e X.env) :: starEach es X.env := by rfl) (hpl : (backTo pos (starEach es X.env)).any (·.1) = false := by rfl) :
    PE X (.Call (.Name n p) (e :: es) [] pos) (tEk C (g :: fs) ta) := by
  obtain ⟨fI, fd, ps, i1, i2, F, b⟩ := E.ini (fun z => nomatch z)
  refine pe_mkx E.ec.o i1 i2 F (hr.mono hj) b hg E.ec.g ha (fun vs H1 Q h => ?_) hdb he hpl
  obtain ⟨hl, q⟩ := h
  refine ⟨by rw [hl]; show fs.length + 1 ≤ 1000; omega, fun a hn => ⟨a, vs, rfl, hl, upd_same, fun H2 ex k fr => ⟨rfl, q a H2 hn (fun b o z => k b o (ne_of_none z hn) (by rw [upd_ne (ne_of_none z hn)]; exact z)) (fun b z => ?_) ex⟩⟩⟩
  have y := fr b z
  by_cases e : b = a
  · subst e; exact hn
  · rw [upd_ne e] at y; exact y
theorem pe_ek0 {X : Cx} {n : Str} {C : Addr} {p pos : Pos} (E : Ek X.prog X.w X.K X.mg X.base n C []) (hg : Gl X n) (hdb : (n == ("__debug__" : Str)) = false := by decide) :
    PE X (.Call (.Name n p) [] [] pos) (tEk C [] tNil) := by
  refine ⟨fun pins s σ H Q I h => (pe_mkx0 E.ec.o (E.bare rfl) E.ec.g hg hdb).run pins s σ H Q I fun a hn => ?_⟩
  obtain ⟨_, q⟩ := h
  refine q a _ hn (fun b o z => by rw [upd_ne (ne_of_none z hn)]; exact z) (fun b z => ?_) (.inl ⟨rfl, upd_same⟩)
  by_cases e : b = a
  · subst e; exact hn
  · rw [upd_ne e] at z; exact z
section
variable {K : PySem.W.Frag} {C a : Addr} {H : Hp} {Q : VK} {cdv : Value}
theorem ini1 {f : Str} {y : V} {σ : L2.St} {rt : VK} (O : OexC K C) (no : ∀ g ∈ [f], PySem.W.findIn K (.ref C) g = some none) (ha : H a = some (exo a C none))
    (q : ∀ H2, ExAt H2 a C ([f].zip [y]).reverse → (∀ b o, b ≠ a → H b = some o → H2 b = some o) → (∀ b, H2 b = none → H b = none) → Q .non H2)
    (s0 : σ[0]? = some (some (.ref a))) (s1 : σ[1]? = some (some y)) : tOst K f (tVar 0) (tVar 1) { nx := fun _ h => Q .non h, rt := rt } σ H := by
  refine ⟨y, s1, .ref a, s0, a, C, rfl, O, no f (List.mem_singleton.mpr rfl), .inl ⟨ha, fun d hd nd => q _ (.inr ⟨d, upd_same, by rw [upd_ne nd]; exact upd_same⟩) (fun b o n z => by rw [upd_ne n, upd_ne (ne_of_none z hd)]; exact z) (fun b z => ?_)⟩⟩
  by_cases e1 : b = a
  · subst e1; rw [upd_same] at z; cases z
  · rw [upd_ne e1] at z
    by_cases e2 : b = d
    · subst e2; exact hd
    · rw [upd_ne e2] at z; exact z
theorem ini2 {f1 f2 : Str} {y1 y2 : V} {σ : L2.St} {rt : VK} (O : OexC K C) (no : ∀ g ∈ [f1, f2], PySem.W.findIn K (.ref C) g = some none) (ha : H a = some (exo a C none))
    (q : ∀ H2, ExAt H2 a C ([f1, f2].zip [y1, y2]).reverse → (∀ b o, b ≠ a → H b = some o → H2 b = some o) → (∀ b, H2 b = none → H b = none) → Q .non H2) :
    σ[0]? = some (some (.ref a)) → σ[1]? = some (some y1) → σ[2]? = some (some y2) → tSeq (tOst K f1 (tVar 0) (tVar 1)) (tOst K f2 (tVar 0) (tVar 2)) { nx := fun _ h => Q .non h, rt := rt } σ H := by
  intro s0 s1 s2
  refine ⟨y1, s1, .ref a, s0, a, C, rfl, O, no f1 (by simp), .inl ⟨ha, fun d hd nd => ?_⟩⟩
  have e1 : (upd (upd H d (exd d [(f1, y1)])) a (exo a C (some d))) a = some (exo a C (some d)) := upd_same
  have e2 : (upd (upd H d (exd d [(f1, y1)])) a (exo a C (some d))) d = some (exd d [(f1, y1)]) := by rw [upd_ne nd]; exact upd_same
  refine ⟨y2, s2, .ref a, s0, a, C, rfl, O, no f2 (by simp), .inr ⟨d, [(f1, y1)], e1, e2, by show 1 ≤ 900; omega, ?_⟩⟩
  refine q _ (.inr ⟨d, by rw [upd_ne nd.symm]; exact e1, upd_same⟩) (fun b o n z => ?_) (fun b z => ?_)
  · rw [upd_ne (ne_of_none z hd), upd_ne n, upd_ne (ne_of_none z hd)]; exact z
  · by_cases g1 : b = d
    · subst g1; exact hd
    · rw [upd_ne g1] at z
      by_cases g2 : b = a
      · subst g2; rw [upd_same] at z; cases z
      · rw [upd_ne g2, upd_ne g1] at z; exact z
theorem ini3 {f1 f2 f3 : Str} {y1 y2 y3 : V} {σ : L2.St} {rt : VK} (O : OexC K C) (no : ∀ g ∈ [f1, f2, f3], PySem.W.findIn K (.ref C) g = some none) (ha : H a = some (exo a C none))
    (q : ∀ H2, ExAt H2 a C ([f1, f2, f3].zip [y1, y2, y3]).reverse → (∀ b o, b ≠ a → H b = some o → H2 b = some o) → (∀ b, H2 b = none → H b = none) → Q .non H2) :
    σ[0]? = some (some (.ref a)) → σ[1]? = some (some y1) → σ[2]? = some (some y2) → σ[3]? = some (some y3) → tSeq (tOst K f1 (tVar 0) (tVar 1)) (tSeq (tOst K f2 (tVar 0) (tVar 2)) (tOst K f3 (tVar 0) (tVar 3))) { nx := fun _ h => Q .non h, rt := rt } σ H := by
  intro s0 s1 s2 s3
  refine ⟨y1, s1, .ref a, s0, a, C, rfl, O, no f1 (by simp), .inl ⟨ha, fun d hd nd => ?_⟩⟩
  have e1 : (upd (upd H d (exd d [(f1, y1)])) a (exo a C (some d))) a = some (exo a C (some d)) := upd_same
  have e2 : (upd (upd H d (exd d [(f1, y1)])) a (exo a C (some d))) d = some (exd d [(f1, y1)]) := by rw [upd_ne nd]; exact upd_same
  refine ⟨y2, s2, .ref a, s0, a, C, rfl, O, no f2 (by simp), .inr ⟨d, [(f1, y1)], e1, e2, by show 1 ≤ 900; omega, ?_⟩⟩
  refine ⟨y3, s3, .ref a, s0, a, C, rfl, O, no f3 (by simp), .inr ⟨d, [(f2, y2), (f1, y1)], by rw [upd_ne nd.symm]; exact e1, upd_same, by show 2 ≤ 900; omega, ?_⟩⟩
  refine q _ (.inr ⟨d, by rw [upd_ne nd.symm, upd_ne nd.symm]; exact e1, upd_same⟩) (fun b o n z => ?_) (fun b z => ?_)
  · rw [upd_ne (ne_of_none z hd), upd_ne (ne_of_none z hd), upd_ne n, upd_ne (ne_of_none z hd)]; exact z
  · by_cases g1 : b = d
    · subst g1; exact hd
    · rw [upd_ne g1, upd_ne g1] at z
      by_cases g2 : b = a
      · subst g2; rw [upd_same] at z; cases z
      · rw [upd_ne g2, upd_ne g1] at z; exact z
end

abbrev i_BadText : Stmt := (C8.clsBody (topS 12)).getD 0 (.Pass ⟨0, 0, 0, 0⟩)
theorem si_BadText : FnScope ["self", "line", "column"] ["self", "line", "column"] (C8.fnScope i_BadText) := C8.fnScope_by (by decide +kernel)
theorem ini_BadText {P : Program} {w : World} {K : PySem.W.Frag} {mg : Str → Option Value} {base : Heap} {C f : Addr} {fd : FuncData} {q : Str} (O : OexC K C) (no : ∀ f ∈ (["line", "column"] : List Str), PySem.W.findIn K (.ref C) f = some none) (F : C8.Fun K "__init__" q i_BadText f fd) : FnOk P w K mg base C8.CX0 1 f fd ["self", "line", "column"] (sp_init C ["line", "column"]) := by
  refine C8.fn0 F si_BadText (fun vs H Q E h => ?_) (fun cdv A outer s H vs Q E hr h => ?_)
  · obtain ⟨a, ys, rfl, h, _⟩ := h; exact congrArg (· + 1) h
  refine ⟨_, (pss_cons (ps_ost (pv 0) (pv 1)) (pss_one (ps_ost (pv 0) (pv 2)))), ?_⟩
  obtain ⟨a, ys, rfl, hl, ha, q⟩ := h
  match ys, hl with
  | [y0, y1], _ =>
    exact ini2 O no ha q rfl rfl rfl
abbrev i_BadWord : Stmt := (C8.clsBody (topS 13)).getD 0 (.Pass ⟨0, 0, 0, 0⟩)
theorem si_BadWord : FnScope ["self", "what"] ["self", "what"] (C8.fnScope i_BadWord) := C8.fnScope_by (by decide +kernel)
theorem ini_BadWord {P : Program} {w : World} {K : PySem.W.Frag} {mg : Str → Option Value} {base : Heap} {C f : Addr} {fd : FuncData} {q : Str} (O : OexC K C) (no : ∀ f ∈ (["what"] : List Str), PySem.W.findIn K (.ref C) f = some none) (F : C8.Fun K "__init__" q i_BadWord f fd) : FnOk P w K mg base C8.CX0 1 f fd ["self", "what"] (sp_init C ["what"]) := by
  refine C8.fn0 F si_BadWord (fun vs H Q E h => ?_) (fun cdv A outer s H vs Q E hr h => ?_)
  · obtain ⟨a, ys, rfl, h, _⟩ := h; exact congrArg (· + 1) h
  refine ⟨_, (pss_one (ps_ost (pv 0) (pv 1))), ?_⟩
  obtain ⟨a, ys, rfl, hl, ha, q⟩ := h
  match ys, hl with
  | [y0], _ =>
    exact ini1 O no ha q rfl rfl
abbrev i_BadNumber : Stmt := (C8.clsBody (topS 14)).getD 0 (.Pass ⟨0, 0, 0, 0⟩)
theorem si_BadNumber : FnScope ["self", "what", "number"] ["self", "what", "number"] (C8.fnScope i_BadNumber) := C8.fnScope_by (by decide +kernel)
theorem ini_BadNumber {P : Program} {w : World} {K : PySem.W.Frag} {mg : Str → Option Value} {base : Heap} {C f : Addr} {fd : FuncData} {q : Str} (O : OexC K C) (no : ∀ f ∈ (["what", "number"] : List Str), PySem.W.findIn K (.ref C) f = some none) (F : C8.Fun K "__init__" q i_BadNumber f fd) : FnOk P w K mg base C8.CX0 1 f fd ["self", "what", "number"] (sp_init C ["what", "number"]) := by
  refine C8.fn0 F si_BadNumber (fun vs H Q E h => ?_) (fun cdv A outer s H vs Q E hr h => ?_)
  · obtain ⟨a, ys, rfl, h, _⟩ := h; exact congrArg (· + 1) h
  refine ⟨_, (pss_cons (ps_ost (pv 0) (pv 1)) (pss_one (ps_ost (pv 0) (pv 2)))), ?_⟩
  obtain ⟨a, ys, rfl, hl, ha, q⟩ := h
  match ys, hl with
  | [y0, y1], _ =>
    exact ini2 O no ha q rfl rfl rfl
abbrev i_BadStep : Stmt := (C8.clsBody (topS 15)).getD 0 (.Pass ⟨0, 0, 0, 0⟩)
theorem si_BadStep : FnScope ["self", "number"] ["self", "number"] (C8.fnScope i_BadStep) := C8.fnScope_by (by decide +kernel)
theorem ini_BadStep {P : Program} {w : World} {K : PySem.W.Frag} {mg : Str → Option Value} {base : Heap} {C f : Addr} {fd : FuncData} {q : Str} (O : OexC K C) (no : ∀ f ∈ (["number"] : List Str), PySem.W.findIn K (.ref C) f = some none) (F : C8.Fun K "__init__" q i_BadStep f fd) : FnOk P w K mg base C8.CX0 1 f fd ["self", "number"] (sp_init C ["number"]) := by
  refine C8.fn0 F si_BadStep (fun vs H Q E h => ?_) (fun cdv A outer s H vs Q E hr h => ?_)
  · obtain ⟨a, ys, rfl, h, _⟩ := h; exact congrArg (· + 1) h
  refine ⟨_, (pss_one (ps_ost (pv 0) (pv 1))), ?_⟩
  obtain ⟨a, ys, rfl, hl, ha, q⟩ := h
  match ys, hl with
  | [y0], _ =>
    exact ini1 O no ha q rfl rfl
abbrev i_TooMany : Stmt := (C8.clsBody (topS 16)).getD 0 (.Pass ⟨0, 0, 0, 0⟩)
theorem si_TooMany : FnScope ["self", "what", "many", "limit"] ["self", "what", "many", "limit"] (C8.fnScope i_TooMany) := C8.fnScope_by (by decide +kernel)
theorem ini_TooMany {P : Program} {w : World} {K : PySem.W.Frag} {mg : Str → Option Value} {base : Heap} {C f : Addr} {fd : FuncData} {q : Str} (O : OexC K C) (no : ∀ f ∈ (["what", "many", "limit"] : List Str), PySem.W.findIn K (.ref C) f = some none) (F : C8.Fun K "__init__" q i_TooMany f fd) : FnOk P w K mg base C8.CX0 1 f fd ["self", "what", "many", "limit"] (sp_init C ["what", "many", "limit"]) := by
  refine C8.fn0 F si_TooMany (fun vs H Q E h => ?_) (fun cdv A outer s H vs Q E hr h => ?_)
  · obtain ⟨a, ys, rfl, h, _⟩ := h; exact congrArg (· + 1) h
  refine ⟨_, (pss_cons (ps_ost (pv 0) (pv 1)) (pss_cons (ps_ost (pv 0) (pv 2)) (pss_one (ps_ost (pv 0) (pv 3))))), ?_⟩
  obtain ⟨a, ys, rfl, hl, ha, q⟩ := h
  match ys, hl with
  | [y0, y1, y2], _ =>
    exact ini3 O no ha q rfl rfl rfl rfl
abbrev i_TooHeavy : Stmt := (C8.clsBody (topS 17)).getD 0 (.Pass ⟨0, 0, 0, 0⟩)
theorem si_TooHeavy : FnScope ["self", "weight"] ["self", "weight"] (C8.fnScope i_TooHeavy) := C8.fnScope_by (by decide +kernel)
theorem ini_TooHeavy {P : Program} {w : World} {K : PySem.W.Frag} {mg : Str → Option Value} {base : Heap} {C f : Addr} {fd : FuncData} {q : Str} (O : OexC K C) (no : ∀ f ∈ (["weight"] : List Str), PySem.W.findIn K (.ref C) f = some none) (F : C8.Fun K "__init__" q i_TooHeavy f fd) : FnOk P w K mg base C8.CX0 1 f fd ["self", "weight"] (sp_init C ["weight"]) := by
  refine C8.fn0 F si_TooHeavy (fun vs H Q E h => ?_) (fun cdv A outer s H vs Q E hr h => ?_)
  · obtain ⟨a, ys, rfl, h, _⟩ := h; exact congrArg (· + 1) h
  refine ⟨_, (pss_one (ps_ost (pv 0) (pv 1))), ?_⟩
  obtain ⟨a, ys, rfl, hl, ha, q⟩ := h
  match ys, hl with
  | [y0], _ =>
    exact ini1 O no ha q rfl rfl
abbrev i_Refused : Stmt := (C8.clsBody (topS 18)).getD 0 (.Pass ⟨0, 0, 0, 0⟩)
theorem si_Refused : FnScope ["self", "number"] ["self", "number"] (C8.fnScope i_Refused) := C8.fnScope_by (by decide +kernel)
theorem ini_Refused {P : Program} {w : World} {K : PySem.W.Frag} {mg : Str → Option Value} {base : Heap} {C f : Addr} {fd : FuncData} {q : Str} (O : OexC K C) (no : ∀ f ∈ (["number"] : List Str), PySem.W.findIn K (.ref C) f = some none) (F : C8.Fun K "__init__" q i_Refused f fd) : FnOk P w K mg base C8.CX0 1 f fd ["self", "number"] (sp_init C ["number"]) := by
  refine C8.fn0 F si_Refused (fun vs H Q E h => ?_) (fun cdv A outer s H vs Q E hr h => ?_)
  · obtain ⟨a, ys, rfl, h, _⟩ := h; exact congrArg (· + 1) h
  refine ⟨_, (pss_one (ps_ost (pv 0) (pv 1))), ?_⟩
  obtain ⟨a, ys, rfl, hl, ha, q⟩ := h
  match ys, hl with
  | [y0], _ =>
    exact ini1 O no ha q rfl rfl
abbrev i_NoTongue : Stmt := (C8.clsBody (topS 19)).getD 0 (.Pass ⟨0, 0, 0, 0⟩)
theorem si_NoTongue : FnScope ["self", "number"] ["self", "number"] (C8.fnScope i_NoTongue) := C8.fnScope_by (by decide +kernel)
theorem ini_NoTongue {P : Program} {w : World} {K : PySem.W.Frag} {mg : Str → Option Value} {base : Heap} {C f : Addr} {fd : FuncData} {q : Str} (O : OexC K C) (no : ∀ f ∈ (["number"] : List Str), PySem.W.findIn K (.ref C) f = some none) (F : C8.Fun K "__init__" q i_NoTongue f fd) : FnOk P w K mg base C8.CX0 1 f fd ["self", "number"] (sp_init C ["number"]) := by
  refine C8.fn0 F si_NoTongue (fun vs H Q E h => ?_) (fun cdv A outer s H vs Q E hr h => ?_)
  · obtain ⟨a, ys, rfl, h, _⟩ := h; exact congrArg (· + 1) h
  refine ⟨_, (pss_one (ps_ost (pv 0) (pv 1))), ?_⟩
  obtain ⟨a, ys, rfl, hl, ha, q⟩ := h
  match ys, hl with
  | [y0], _ =>
    exact ini1 O no ha q rfl rfl
abbrev i_BadName : Stmt := (C8.clsBody (topS 20)).getD 0 (.Pass ⟨0, 0, 0, 0⟩)
theorem si_BadName : FnScope ["self", "name"] ["self", "name"] (C8.fnScope i_BadName) := C8.fnScope_by (by decide +kernel)
theorem ini_BadName {P : Program} {w : World} {K : PySem.W.Frag} {mg : Str → Option Value} {base : Heap} {C f : Addr} {fd : FuncData} {q : Str} (O : OexC K C) (no : ∀ f ∈ (["name"] : List Str), PySem.W.findIn K (.ref C) f = some none) (F : C8.Fun K "__init__" q i_BadName f fd) : FnOk P w K mg base C8.CX0 1 f fd ["self", "name"] (sp_init C ["name"]) := by
  refine C8.fn0 F si_BadName (fun vs H Q E h => ?_) (fun cdv A outer s H vs Q E hr h => ?_)
  · obtain ⟨a, ys, rfl, h, _⟩ := h; exact congrArg (· + 1) h
  refine ⟨_, (pss_one (ps_ost (pv 0) (pv 1))), ?_⟩
  obtain ⟨a, ys, rfl, hl, ha, q⟩ := h
  match ys, hl with
  | [y0], _ =>
    exact ini1 O no ha q rfl rfl
abbrev i_TakenName : Stmt := (C8.clsBody (topS 21)).getD 0 (.Pass ⟨0, 0, 0, 0⟩)
theorem si_TakenName : FnScope ["self", "name"] ["self", "name"] (C8.fnScope i_TakenName) := C8.fnScope_by (by decide +kernel)
theorem ini_TakenName {P : Program} {w : World} {K : PySem.W.Frag} {mg : Str → Option Value} {base : Heap} {C f : Addr} {fd : FuncData} {q : Str} (O : OexC K C) (no : ∀ f ∈ (["name"] : List Str), PySem.W.findIn K (.ref C) f = some none) (F : C8.Fun K "__init__" q i_TakenName f fd) : FnOk P w K mg base C8.CX0 1 f fd ["self", "name"] (sp_init C ["name"]) := by
  refine C8.fn0 F si_TakenName (fun vs H Q E h => ?_) (fun cdv A outer s H vs Q E hr h => ?_)
  · obtain ⟨a, ys, rfl, h, _⟩ := h; exact congrArg (· + 1) h
  refine ⟨_, (pss_one (ps_ost (pv 0) (pv 1))), ?_⟩
  obtain ⟨a, ys, rfl, hl, ha, q⟩ := h
  match ys, hl with
  | [y0], _ =>
    exact ini1 O no ha q rfl rfl
abbrev i_NoFile : Stmt := (C8.clsBody (topS 22)).getD 0 (.Pass ⟨0, 0, 0, 0⟩)
theorem si_NoFile : FnScope ["self", "name"] ["self", "name"] (C8.fnScope i_NoFile) := C8.fnScope_by (by decide +kernel)
theorem ini_NoFile {P : Program} {w : World} {K : PySem.W.Frag} {mg : Str → Option Value} {base : Heap} {C f : Addr} {fd : FuncData} {q : Str} (O : OexC K C) (no : ∀ f ∈ (["name"] : List Str), PySem.W.findIn K (.ref C) f = some none) (F : C8.Fun K "__init__" q i_NoFile f fd) : FnOk P w K mg base C8.CX0 1 f fd ["self", "name"] (sp_init C ["name"]) := by
  refine C8.fn0 F si_NoFile (fun vs H Q E h => ?_) (fun cdv A outer s H vs Q E hr h => ?_)
  · obtain ⟨a, ys, rfl, h, _⟩ := h; exact congrArg (· + 1) h
  refine ⟨_, (pss_one (ps_ost (pv 0) (pv 1))), ?_⟩
  obtain ⟨a, ys, rfl, hl, ha, q⟩ := h
  match ys, hl with
  | [y0], _ =>
    exact ini1 O no ha q rfl rfl
abbrev i_NoScript : Stmt := (C8.clsBody (topS 23)).getD 0 (.Pass ⟨0, 0, 0, 0⟩)
theorem si_NoScript : FnScope ["self", "name"] ["self", "name"] (C8.fnScope i_NoScript) := C8.fnScope_by (by decide +kernel)
theorem ini_NoScript {P : Program} {w : World} {K : PySem.W.Frag} {mg : Str → Option Value} {base : Heap} {C f : Addr} {fd : FuncData} {q : Str} (O : OexC K C) (no : ∀ f ∈ (["name"] : List Str), PySem.W.findIn K (.ref C) f = some none) (F : C8.Fun K "__init__" q i_NoScript f fd) : FnOk P w K mg base C8.CX0 1 f fd ["self", "name"] (sp_init C ["name"]) := by
  refine C8.fn0 F si_NoScript (fun vs H Q E h => ?_) (fun cdv A outer s H vs Q E hr h => ?_)
  · obtain ⟨a, ys, rfl, h, _⟩ := h; exact congrArg (· + 1) h
  refine ⟨_, (pss_one (ps_ost (pv 0) (pv 1))), ?_⟩
  obtain ⟨a, ys, rfl, hl, ha, q⟩ := h
  match ys, hl with
  | [y0], _ =>
    exact ini1 O no ha q rfl rfl
abbrev i_NoGuard : Stmt := (C8.clsBody (topS 24)).getD 0 (.Pass ⟨0, 0, 0, 0⟩)
theorem si_NoGuard : FnScope ["self", "name", "number"] ["self", "name", "number"] (C8.fnScope i_NoGuard) := C8.fnScope_by (by decide +kernel)
theorem ini_NoGuard {P : Program} {w : World} {K : PySem.W.Frag} {mg : Str → Option Value} {base : Heap} {C f : Addr} {fd : FuncData} {q : Str} (O : OexC K C) (no : ∀ f ∈ (["name", "number"] : List Str), PySem.W.findIn K (.ref C) f = some none) (F : C8.Fun K "__init__" q i_NoGuard f fd) : FnOk P w K mg base C8.CX0 1 f fd ["self", "name", "number"] (sp_init C ["name", "number"]) := by
  refine C8.fn0 F si_NoGuard (fun vs H Q E h => ?_) (fun cdv A outer s H vs Q E hr h => ?_)
  · obtain ⟨a, ys, rfl, h, _⟩ := h; exact congrArg (· + 1) h
  refine ⟨_, (pss_cons (ps_ost (pv 0) (pv 1)) (pss_one (ps_ost (pv 0) (pv 2)))), ?_⟩
  obtain ⟨a, ys, rfl, hl, ha, q⟩ := h
  match ys, hl with
  | [y0, y1], _ =>
    exact ini2 O no ha q rfl rfl rfl
abbrev i_Broken : Stmt := (C8.clsBody (topS 25)).getD 0 (.Pass ⟨0, 0, 0, 0⟩)
theorem si_Broken : FnScope ["self", "name", "number"] ["self", "name", "number"] (C8.fnScope i_Broken) := C8.fnScope_by (by decide +kernel)
theorem ini_Broken {P : Program} {w : World} {K : PySem.W.Frag} {mg : Str → Option Value} {base : Heap} {C f : Addr} {fd : FuncData} {q : Str} (O : OexC K C) (no : ∀ f ∈ (["name", "number"] : List Str), PySem.W.findIn K (.ref C) f = some none) (F : C8.Fun K "__init__" q i_Broken f fd) : FnOk P w K mg base C8.CX0 1 f fd ["self", "name", "number"] (sp_init C ["name", "number"]) := by
  refine C8.fn0 F si_Broken (fun vs H Q E h => ?_) (fun cdv A outer s H vs Q E hr h => ?_)
  · obtain ⟨a, ys, rfl, h, _⟩ := h; exact congrArg (· + 1) h
  refine ⟨_, (pss_cons (ps_ost (pv 0) (pv 1)) (pss_one (ps_ost (pv 0) (pv 2)))), ?_⟩
  obtain ⟨a, ys, rfl, hl, ha, q⟩ := h
  match ys, hl with
  | [y0, y1], _ =>
    exact ini2 O no ha q rfl rfl rfl
abbrev i_BadPlace : Stmt := (C8.clsBody (topS 26)).getD 0 (.Pass ⟨0, 0, 0, 0⟩)
theorem si_BadPlace : FnScope ["self", "place"] ["self", "place"] (C8.fnScope i_BadPlace) := C8.fnScope_by (by decide +kernel)
theorem ini_BadPlace {P : Program} {w : World} {K : PySem.W.Frag} {mg : Str → Option Value} {base : Heap} {C f : Addr} {fd : FuncData} {q : Str} (O : OexC K C) (no : ∀ f ∈ (["place"] : List Str), PySem.W.findIn K (.ref C) f = some none) (F : C8.Fun K "__init__" q i_BadPlace f fd) : FnOk P w K mg base C8.CX0 1 f fd ["self", "place"] (sp_init C ["place"]) := by
  refine C8.fn0 F si_BadPlace (fun vs H Q E h => ?_) (fun cdv A outer s H vs Q E hr h => ?_)
  · obtain ⟨a, ys, rfl, h, _⟩ := h; exact congrArg (· + 1) h
  refine ⟨_, (pss_one (ps_ost (pv 0) (pv 1))), ?_⟩
  obtain ⟨a, ys, rfl, hl, ha, q⟩ := h
  match ys, hl with
  | [y0], _ =>
    exact ini1 O no ha q rfl rfl
abbrev i_NoLine : Stmt := (C8.clsBody (topS 27)).getD 0 (.Pass ⟨0, 0, 0, 0⟩)
theorem si_NoLine : FnScope ["self", "number"] ["self", "number"] (C8.fnScope i_NoLine) := C8.fnScope_by (by decide +kernel)
theorem ini_NoLine {P : Program} {w : World} {K : PySem.W.Frag} {mg : Str → Option Value} {base : Heap} {C f : Addr} {fd : FuncData} {q : Str} (O : OexC K C) (no : ∀ f ∈ (["number"] : List Str), PySem.W.findIn K (.ref C) f = some none) (F : C8.Fun K "__init__" q i_NoLine f fd) : FnOk P w K mg base C8.CX0 1 f fd ["self", "number"] (sp_init C ["number"]) := by
  refine C8.fn0 F si_NoLine (fun vs H Q E h => ?_) (fun cdv A outer s H vs Q E hr h => ?_)
  · obtain ⟨a, ys, rfl, h, _⟩ := h; exact congrArg (· + 1) h
  refine ⟨_, (pss_one (ps_ost (pv 0) (pv 1))), ?_⟩
  obtain ⟨a, ys, rfl, hl, ha, q⟩ := h
  match ys, hl with
  | [y0], _ =>
    exact ini1 O no ha q rfl rfl
abbrev i_Touched : Stmt := (C8.clsBody (topS 28)).getD 0 (.Pass ⟨0, 0, 0, 0⟩)
theorem si_Touched : FnScope ["self", "number"] ["self", "number"] (C8.fnScope i_Touched) := C8.fnScope_by (by decide +kernel)
theorem ini_Touched {P : Program} {w : World} {K : PySem.W.Frag} {mg : Str → Option Value} {base : Heap} {C f : Addr} {fd : FuncData} {q : Str} (O : OexC K C) (no : ∀ f ∈ (["number"] : List Str), PySem.W.findIn K (.ref C) f = some none) (F : C8.Fun K "__init__" q i_Touched f fd) : FnOk P w K mg base C8.CX0 1 f fd ["self", "number"] (sp_init C ["number"]) := by
  refine C8.fn0 F si_Touched (fun vs H Q E h => ?_) (fun cdv A outer s H vs Q E hr h => ?_)
  · obtain ⟨a, ys, rfl, h, _⟩ := h; exact congrArg (· + 1) h
  refine ⟨_, (pss_one (ps_ost (pv 0) (pv 1))), ?_⟩
  obtain ⟨a, ys, rfl, hl, ha, q⟩ := h
  match ys, hl with
  | [y0], _ =>
    exact ini1 O no ha q rfl rfl
abbrev i_AllLines : Stmt := (C8.clsBody (topS 29)).getD 0 (.Pass ⟨0, 0, 0, 0⟩)
theorem si_AllLines : FnScope ["self", "name"] ["self", "name"] (C8.fnScope i_AllLines) := C8.fnScope_by (by decide +kernel)
theorem ini_AllLines {P : Program} {w : World} {K : PySem.W.Frag} {mg : Str → Option Value} {base : Heap} {C f : Addr} {fd : FuncData} {q : Str} (O : OexC K C) (no : ∀ f ∈ (["name"] : List Str), PySem.W.findIn K (.ref C) f = some none) (F : C8.Fun K "__init__" q i_AllLines f fd) : FnOk P w K mg base C8.CX0 1 f fd ["self", "name"] (sp_init C ["name"]) := by
  refine C8.fn0 F si_AllLines (fun vs H Q E h => ?_) (fun cdv A outer s H vs Q E hr h => ?_)
  · obtain ⟨a, ys, rfl, h, _⟩ := h; exact congrArg (· + 1) h
  refine ⟨_, (pss_one (ps_ost (pv 0) (pv 1))), ?_⟩
  obtain ⟨a, ys, rfl, hl, ha, q⟩ := h
  match ys, hl with
  | [y0], _ =>
    exact ini1 O no ha q rfl rfl
abbrev i_NoHidden : Stmt := (C8.clsBody (topS 30)).getD 0 (.Pass ⟨0, 0, 0, 0⟩)
theorem si_NoHidden : FnScope ["self", "number"] ["self", "number"] (C8.fnScope i_NoHidden) := C8.fnScope_by (by decide +kernel)
theorem ini_NoHidden {P : Program} {w : World} {K : PySem.W.Frag} {mg : Str → Option Value} {base : Heap} {C f : Addr} {fd : FuncData} {q : Str} (O : OexC K C) (no : ∀ f ∈ (["number"] : List Str), PySem.W.findIn K (.ref C) f = some none) (F : C8.Fun K "__init__" q i_NoHidden f fd) : FnOk P w K mg base C8.CX0 1 f fd ["self", "number"] (sp_init C ["number"]) := by
  refine C8.fn0 F si_NoHidden (fun vs H Q E h => ?_) (fun cdv A outer s H vs Q E hr h => ?_)
  · obtain ⟨a, ys, rfl, h, _⟩ := h; exact congrArg (· + 1) h
  refine ⟨_, (pss_one (ps_ost (pv 0) (pv 1))), ?_⟩
  obtain ⟨a, ys, rfl, hl, ha, q⟩ := h
  match ys, hl with
  | [y0], _ =>
    exact ini1 O no ha q rfl rfl
abbrev i_Unlike : Stmt := (C8.clsBody (topS 31)).getD 0 (.Pass ⟨0, 0, 0, 0⟩)
theorem si_Unlike : FnScope ["self", "text"] ["self", "text"] (C8.fnScope i_Unlike) := C8.fnScope_by (by decide +kernel)
theorem ini_Unlike {P : Program} {w : World} {K : PySem.W.Frag} {mg : Str → Option Value} {base : Heap} {C f : Addr} {fd : FuncData} {q : Str} (O : OexC K C) (no : ∀ f ∈ (["text"] : List Str), PySem.W.findIn K (.ref C) f = some none) (F : C8.Fun K "__init__" q i_Unlike f fd) : FnOk P w K mg base C8.CX0 1 f fd ["self", "text"] (sp_init C ["text"]) := by
  refine C8.fn0 F si_Unlike (fun vs H Q E h => ?_) (fun cdv A outer s H vs Q E hr h => ?_)
  · obtain ⟨a, ys, rfl, h, _⟩ := h; exact congrArg (· + 1) h
  refine ⟨_, (pss_one (ps_ost (pv 0) (pv 1))), ?_⟩
  obtain ⟨a, ys, rfl, hl, ha, q⟩ := h
  match ys, hl with
  | [y0], _ =>
    exact ini1 O no ha q rfl rfl
abbrev i_Conflict : Stmt := (C8.clsBody (topS 32)).getD 0 (.Pass ⟨0, 0, 0, 0⟩)
theorem si_Conflict : FnScope ["self", "start", "stop"] ["self", "start", "stop"] (C8.fnScope i_Conflict) := C8.fnScope_by (by decide +kernel)
theorem ini_Conflict {P : Program} {w : World} {K : PySem.W.Frag} {mg : Str → Option Value} {base : Heap} {C f : Addr} {fd : FuncData} {q : Str} (O : OexC K C) (no : ∀ f ∈ (["start", "stop"] : List Str), PySem.W.findIn K (.ref C) f = some none) (F : C8.Fun K "__init__" q i_Conflict f fd) : FnOk P w K mg base C8.CX0 1 f fd ["self", "start", "stop"] (sp_init C ["start", "stop"]) := by
  refine C8.fn0 F si_Conflict (fun vs H Q E h => ?_) (fun cdv A outer s H vs Q E hr h => ?_)
  · obtain ⟨a, ys, rfl, h, _⟩ := h; exact congrArg (· + 1) h
  refine ⟨_, (pss_cons (ps_ost (pv 0) (pv 1)) (pss_one (ps_ost (pv 0) (pv 2)))), ?_⟩
  obtain ⟨a, ys, rfl, hl, ha, q⟩ := h
  match ys, hl with
  | [y0, y1], _ =>
    exact ini2 O no ha q rfl rfl rfl
abbrev i_MayConflict : Stmt := (C8.clsBody (topS 33)).getD 0 (.Pass ⟨0, 0, 0, 0⟩)
theorem si_MayConflict : FnScope ["self", "text"] ["self", "text"] (C8.fnScope i_MayConflict) := C8.fnScope_by (by decide +kernel)
theorem ini_MayConflict {P : Program} {w : World} {K : PySem.W.Frag} {mg : Str → Option Value} {base : Heap} {C f : Addr} {fd : FuncData} {q : Str} (O : OexC K C) (no : ∀ f ∈ (["text"] : List Str), PySem.W.findIn K (.ref C) f = some none) (F : C8.Fun K "__init__" q i_MayConflict f fd) : FnOk P w K mg base C8.CX0 1 f fd ["self", "text"] (sp_init C ["text"]) := by
  refine C8.fn0 F si_MayConflict (fun vs H Q E h => ?_) (fun cdv A outer s H vs Q E hr h => ?_)
  · obtain ⟨a, ys, rfl, h, _⟩ := h; exact congrArg (· + 1) h
  refine ⟨_, (pss_one (ps_ost (pv 0) (pv 1))), ?_⟩
  obtain ⟨a, ys, rfl, hl, ha, q⟩ := h
  match ys, hl with
  | [y0], _ =>
    exact ini1 O no ha q rfl rfl
structure Es (P : Program) (w : World) (K : PySem.W.Frag) (mg : Str → Option Value) (base : Heap) (cs : List Addr) (W : Addr) : Prop where
  b_WorkshopError : mg "WorkshopError" = some (.ref W)
  e_BadText : Ek P w K mg base "BadText" (cs.getD 0 0) ["line", "column"]
  e_BadWord : Ek P w K mg base "BadWord" (cs.getD 1 0) ["what"]
  e_BadNumber : Ek P w K mg base "BadNumber" (cs.getD 2 0) ["what", "number"]
  e_BadStep : Ek P w K mg base "BadStep" (cs.getD 3 0) ["number"]
  e_TooMany : Ek P w K mg base "TooMany" (cs.getD 4 0) ["what", "many", "limit"]
  e_TooHeavy : Ek P w K mg base "TooHeavy" (cs.getD 5 0) ["weight"]
  e_Refused : Ek P w K mg base "Refused" (cs.getD 6 0) ["number"]
  e_NoTongue : Ek P w K mg base "NoTongue" (cs.getD 7 0) ["number"]
  e_BadName : Ek P w K mg base "BadName" (cs.getD 8 0) ["name"]
  e_TakenName : Ek P w K mg base "TakenName" (cs.getD 9 0) ["name"]
  e_NoFile : Ek P w K mg base "NoFile" (cs.getD 10 0) ["name"]
  e_NoScript : Ek P w K mg base "NoScript" (cs.getD 11 0) ["name"]
  e_NoGuard : Ek P w K mg base "NoGuard" (cs.getD 12 0) ["name", "number"]
  e_Broken : Ek P w K mg base "Broken" (cs.getD 13 0) ["name", "number"]
  e_BadPlace : Ek P w K mg base "BadPlace" (cs.getD 14 0) ["place"]
  e_NoLine : Ek P w K mg base "NoLine" (cs.getD 15 0) ["number"]
  e_Touched : Ek P w K mg base "Touched" (cs.getD 16 0) ["number"]
  e_AllLines : Ek P w K mg base "AllLines" (cs.getD 17 0) ["name"]
  e_NoHidden : Ek P w K mg base "NoHidden" (cs.getD 18 0) ["number"]
  e_Unlike : Ek P w K mg base "Unlike" (cs.getD 19 0) ["text"]
  e_Conflict : Ek P w K mg base "Conflict" (cs.getD 20 0) ["start", "stop"]
  e_MayConflict : Ek P w K mg base "MayConflict" (cs.getD 21 0) ["text"]
  e_NothingNoted : Ek P w K mg base "NothingNoted" (cs.getD 22 0) []
  e_MixedTongues : Ek P w K mg base "MixedTongues" (cs.getD 23 0) []
  e_NothingToUndo : Ek P w K mg base "NothingToUndo" (cs.getD 24 0) []
  e_NothingToRedo : Ek P w K mg base "NothingToRedo" (cs.getD 25 0) []
  two : ∀ i j : Nat, i < 26 → j < 26 → PySem.W.kitOne K (.ref (cs.getD i 0)) (.ref (cs.getD j 0)) = some (decide (j = i))
  up : ∀ i : Nat, i < 26 → PySem.W.kitOne K (.ref (cs.getD i 0)) (.ref W) = some true ∧ PySem.W.kitOne K (.ref (cs.getD i 0)) (.type "ValueError") = some true ∧ ExcC K (cs.getD i 0) ∧ XfC K (cs.getD i 0)
end Vf

set_option maxRecDepth 100000
set_option maxHeartbeats 4000000
namespace Vf
open PySem PySem.Spec PyProof.Rows L2 SX
section
variable {P : Program} {w : World} {K : PySem.W.Frag} {mg : Str → Option Value} {base : Heap}
/-! ### the promises -/
def spPost (p c : Addr) (m k : Nat) (H : Hp) (R : V → Hp → Prop) (Q : VK) : Prop := ∀ (H' : Hp) (v : V), Ks H H' → PenAt H' p c (m + k) → R v H' → Q v H'
def sp_pen (K : PySem.W.Frag) : Sp := fun vs H Q _ => ∃ (a : Addr) (ns : List Int), vs = [.ref a] ∧ SqL K H a (ns.map V.int) ∧ ns.length ≤ 63 ∧ ∀ (H' : Hp) (p c : Addr), Ks H H' → PenAt H' p c 0 → Q (.ref p) H'
def sp_draw : Sp := fun vs H Q _ => ∃ (p c : Addr) (m n : Nat), vs = [.ref p, .int (n : Int)] ∧ PenAt H p c m ∧ m < 1000000 ∧ 1 ≤ n ∧ n < 1073741824 ∧ ∀ (H' : Hp) (r : Nat), Ks H H' → PenAt H' p c (m + 1) → r < n → Q (.int (r : Int)) H'
def sp_pick : Sp := fun vs H Q _ => ∃ (p c : Addr) (m : Nat) (x : V), vs = [.ref p, x] ∧ PenAt H p c m ∧ m < 1000000 ∧
  ((∃ l : List Nat, x = .str (S l) ∧ 1 ≤ l.length ∧ l.length ≤ 1000000 ∧ ∀ (H' : Hp) (ch : Nat), Ks H H' → PenAt H' p c (m + 1) → ch ∈ l → Q (.str (S [ch])) H') ∨
   ∃ (a : Addr) (xs : List V), x = .ref a ∧ H a = some (.lst xs) ∧ 1 ≤ xs.length ∧ xs.length ≤ 1000000 ∧ ∀ (H' : Hp) (v : V), Ks H H' → PenAt H' p c (m + 1) → v ∈ xs → Q v H')
/-! ### a comprehension over a range whose element draws -/
theorem lc_pen {p c : Addr} {m0 n s : Nat} {te : TE} {k : Nat} {σ : L2.St} {H1 : Hp} {D : Addr} {Qd : Hp → Prop} (R : V → Hp → Prop) (stab : ∀ v H H', Tk H H' → R v H → R v H') (hk : k < σ.length) (hD : H1 D = none) (hp : PenAt H1 p c m0) (hn : n ≤ 1000000)
    (hs : ∀ (i : Nat) (H : Hp) (m : Nat) (Q : VK), i < n → PenAt H p c m → m ≤ m0 + i * s → (∀ (H' : Hp) (v : V), Ks H H' → PenAt H' p c (m + s) → R v H' → Q v H') → te ((wipe σ [k]).set k (some (.int ((0 : Int) + i)))) H Q)
    (hd : ∀ (H : Hp) (xs : List V), xs.length = n → (∀ v ∈ xs, R v H) → H D = some (.lst xs) → Ks H1 H → PenAt H p c (m0 + n * s) → Qd H) :
    ∃ W : Nat → Nat → Hp → Prop, (∃ m, W 0 m (upd H1 D (.lst []))) ∧ ∀ i m H, W i m H →
      ((Itr 0 n).stop i H ∧ Qd H) ∨ ((Itr 0 n).go i H ∧ ∃ Nx : Hp → Prop, (∀ H', Nx H' → ∃ m', m' < m ∧ W (i + 1) m' H') ∧ ∀ x H', (Itr 0 n).yld i H x H' → gName k x (wipe σ [k]) H' fun σ2 H2 => wipe σ2 [k] = wipe σ [k] ∧ tYes σ2 H2 fun b H3 =>
        if b = true then te σ2 H3 fun y H4 => ∃ acc, H4 D = some (.lst acc) ∧ acc.length < sizeLine ∧ Nx (upd H4 D (.lst (acc ++ [y]))) else Nx H3) := by
  have nD := hp.ne hD
  refine lc_range (lo := 0) (n := n) (fun i H => ∃ xs : List V, xs.length = i ∧ (∀ v ∈ xs, R v H) ∧ H D = some (.lst xs) ∧ Ks H1 H ∧ PenAt H p c (m0 + i * s)) ?_ ?_ ?_
  · exact ⟨[], rfl, (fun _ h => nomatch h), upd_same, Ks.new1 hD _, by rw [Nat.zero_mul]; exact hp.new hD⟩
  · rintro i H hi ⟨xs, e1, e2, e3, e4, e5⟩
    refine ⟨?_, ?_⟩
    · show ((σ.set k none).set k _).set k none = (σ.set k none)
      rw [List.set_set, List.set_set]
    · dsimp only [tYes]
      rw [if_pos rfl]
      refine hs i H _ _ hi e5 (Nat.le_refl _) (fun H' v k1 k2 k3 => ?_)
      refine ⟨xs, k1.lst e3, szL (by omega), xs ++ [v], by rw [List.length_append, e1]; rfl, fun u hu => ?_, upd_same, (e4.trans k1).upd hD _, ?_⟩
      · have tk : Tk H' (upd H' D (.lst (xs ++ [v]))) := (Tk.refl H').lst (k1.lst e3)
        rcases List.mem_append.mp hu with hu | hu
        · exact stab _ _ _ (k1.tk.trans tk) (e2 u hu)
        · rw [List.mem_singleton.mp hu]
          exact stab _ _ _ tk k3
      · rw [Nat.succ_mul, ← Nat.add_assoc]
        exact k2.upd nD.1 nD.2
  · rintro H ⟨xs, e1, e2, e3, e4, e5⟩
    exact hd H xs e1 e2 e3 e4 e5
/-- a list of one-sign texts -/
def Ones (P : Nat → Prop) (v : V) : Prop := ∃ ch, v = .str (S [ch]) ∧ P ch
theorem ones_of {P : Nat → Prop} : ∀ {xs : List V}, (∀ v ∈ xs, Ones P v) → ∃ t : List Nat, xs = ((t.map fun c => S [c]).map V.str) ∧ (∀ c ∈ t, P c)
  | [], _ => ⟨[], rfl, fun _ h => nomatch h⟩
  | v :: xs, h => by
    obtain ⟨t, e, ht⟩ := ones_of (xs := xs) fun u hu => h u (List.mem_cons_of_mem _ hu)
    obtain ⟨ch, e1, e2⟩ := h v (List.mem_cons_self ..)
    refine ⟨ch :: t, by rw [e1, e]; rfl, fun c hc => ?_⟩
    rcases List.mem_cons.mp hc with hc | hc
    · rw [hc]; exact e2
    · exact ht c hc
theorem joinL_ones : ∀ t : List Nat, TL.joinL [] (t.map fun c => [c]) = t
  | [] => rfl
  | [_] => rfl
  | c :: d :: t => by
    show [c] ++ ([] ++ TL.joinL [] ((d :: t).map fun c => [c])) = c :: d :: t
    rw [joinL_ones (d :: t)]
    rfl
theorem join_ones : ∀ t : List Nat, Txt.join (S []) (t.map fun c => S [c]) = S t := fun t => by
  have e : (t.map fun c => S [c]) = (t.map fun c => [c]).map S := by rw [List.map_map]; rfl
  rw [e, join_S]
  exact congrArg S (joinL_ones t)
theorem ones_len : ∀ t : List Nat, ((t.map fun c => S [c]).map (·.length)).sum = t.length
  | [] => rfl
  | c :: t => by
    have := ones_len t
    show 1 + ((t.map fun c => S [c]).map (·.length)).sum = t.length + 1
    omega
theorem ones_bound {t : List Nat} (h : t.length ≤ 1000000) : ((t.map fun c => S [c]).map (·.length)).sum + (t.map fun c => S [c]).length * (S []).length ≤ 16777216 := by
  rw [ones_len]
  show t.length + _ * 0 ≤ 16777216
  omega
theorem same_new {H0 H : Hp} {p : Addr} (s : Same H0 H) (h : H p = none) (o : HO) : Same H0 (upd H p o) := fun b u e => by
  rw [upd_ne (ne_of_none (s b u e) h)]
  exact s b u e
theorem same_upd {H0 H : Hp} {p : Addr} (s : Same H0 H) (h : H0 p = none) (o : HO) : Same H0 (upd H p o) := fun b u e => by
  rw [upd_ne (ne_of_none e h)]
  exact s b u e
theorem sz_1 : 1 ≤ sizeLine := by decide
theorem sz_2 : 2 ≤ sizeLine := by decide
theorem sz_3 : 3 ≤ sizeLine := by decide

/-! ### lines -/
def lns (l : List Nat) : List (List Nat) := TL.spl [10] 0 [] l
theorem pre10 (d : Nat) (l : List Nat) : TL.pre [10] (d :: l) = decide (d = 10) := by
  show ([d] == [10]) = _
  by_cases e : d = 10
  · subst e; simp
  · simp [e]
theorem spl_ne : ∀ (l acc : List Nat), ∃ p r, TL.spl [10] 0 acc l = p :: r
  | [], acc => ⟨acc, [], rfl⟩
  | d :: l, acc => by
    by_cases e : TL.pre [10] (d :: l) = true
    · exact ⟨acc, _, TL.spl_hit e⟩
    · rw [TL.spl_miss (Bool.eq_false_iff.mpr e)]
      exact spl_ne l _
theorem join_spl : ∀ (l acc : List Nat), TL.joinL [10] (TL.spl [10] 0 acc l) = acc ++ l
  | [], acc => (List.append_nil acc).symm
  | d :: l, acc => by
    by_cases e : d = 10
    · rw [TL.spl_hit (by rw [pre10]; exact decide_eq_true e)]
      obtain ⟨p, r, h⟩ := spl_ne l []
      have ih := join_spl l []
      show TL.joinL [10] (acc :: TL.spl [10] 0 [] l) = _
      rw [h] at ih ⊢
      show acc ++ ([10] ++ TL.joinL [10] (p :: r)) = _
      rw [ih, e]
      rfl
    · rw [TL.spl_miss (by rw [pre10]; exact decide_eq_false e), join_spl l]
      simp
theorem join_lns (l : List Nat) : TL.joinL [10] (lns l) = l := (join_spl l []).trans (List.nil_append l)
theorem lns_ne (l : List Nat) : lns l ≠ [] := by
  obtain ⟨p, r, h⟩ := spl_ne l []
  unfold lns
  rw [h]
  exact fun z => nomatch z
theorem split_nl (l : List Nat) : Txt.split (S l) (S [10]) = (lns l).map S := by
  refine TL.map_tl_inj ?_
  rw [TL.split_spl (S l) (S [10]) (fun z => nomatch z) (TL.kind_ok (by decide +kernel)), List.map_map]
  show TL.spl [10] 0 [] l = _
  unfold lns
  exact (List.map_id _).symm
/-- a text's lines, one sign more at its end -/
theorem spl_snoc (c : Nat) : ∀ (l acc : List Nat), ∃ (f : List (List Nat)) (z : List Nat), TL.spl [10] 0 acc l = f ++ [z] ∧ TL.spl [10] 0 acc (l ++ [c]) = if c = 10 then f ++ [z, []] else f ++ [z ++ [c]]
  | [], acc => by
    refine ⟨[], acc, rfl, ?_⟩
    show TL.spl [10] 0 acc [c] = _
    by_cases e : c = 10
    · rw [TL.spl_hit (by rw [pre10]; exact decide_eq_true e), if_pos e]; rfl
    · rw [TL.spl_miss (by rw [pre10]; exact decide_eq_false e), if_neg e]; rfl
  | d :: l, acc => by
    by_cases e : d = 10
    · obtain ⟨f, z, h1, h2⟩ := spl_snoc c l []
      refine ⟨acc :: f, z, ?_, ?_⟩
      · rw [TL.spl_hit (by rw [pre10]; exact decide_eq_true e)]
        show acc :: TL.spl [10] 0 [] l = _
        rw [h1]; rfl
      · rw [List.cons_append, TL.spl_hit (by rw [pre10]; exact decide_eq_true e)]
        show acc :: TL.spl [10] 0 [] (l ++ [c]) = _
        rw [h2]
        by_cases e2 : c = 10
        · rw [if_pos e2, if_pos e2]; rfl
        · rw [if_neg e2, if_neg e2]; rfl
    · obtain ⟨f, z, h1, h2⟩ := spl_snoc c l (acc ++ [d])
      refine ⟨f, z, ?_, ?_⟩
      · rw [TL.spl_miss (by rw [pre10]; exact decide_eq_false e)]; exact h1
      · rw [List.cons_append, TL.spl_miss (by rw [pre10]; exact decide_eq_false e)]; exact h2
theorem lns_snoc (c : Nat) (l : List Nat) : ∃ (f : List (List Nat)) (z : List Nat), lns l = f ++ [z] ∧ lns (l ++ [c]) = if c = 10 then f ++ [z, []] else f ++ [z ++ [c]] := spl_snoc c l []
theorem lns_len : ∀ l : List Nat, (lns l).length ≤ l.length + 1 := fun l => by
  have h : ∀ (l acc : List Nat), (TL.spl [10] 0 acc l).length ≤ l.length + 1 := by
    intro l
    induction l with
    | nil => intro acc; exact Nat.le_refl _
    | cons d l ih =>
      intro acc
      by_cases e : d = 10
      · rw [TL.spl_hit (by rw [pre10]; exact decide_eq_true e)]
        exact Nat.succ_le_succ (ih [])
      · rw [TL.spl_miss (by rw [pre10]; exact decide_eq_false e)]
        exact Nat.le_succ_of_le (ih _)
  exact h l []
/-- the places behind the newlines -/
def nlAt : Nat → List Nat → List Nat
  | _, [] => []
  | i, c :: r => if c = 10 then (i + 1) :: nlAt (i + 1) r else nlAt (i + 1) r
theorem nlAt_snoc (c : Nat) : ∀ (l : List Nat) (i : Nat), nlAt i (l ++ [c]) = nlAt i l ++ (if c = 10 then [i + l.length + 1] else [])
  | [], i => by
    show (if c = 10 then _ else _) = _
    by_cases e : c = 10
    · rw [if_pos e, if_pos e]; rfl
    · rw [if_neg e, if_neg e]; rfl
  | d :: l, i => by
    have ih := nlAt_snoc c l (i + 1)
    rw [show i + 1 + l.length + 1 = i + (d :: l).length + 1 by rw [List.length_cons]; omega] at ih
    show (if d = 10 then (i + 1) :: nlAt (i + 1) (l ++ [c]) else nlAt (i + 1) (l ++ [c])) = (if d = 10 then (i + 1) :: nlAt (i + 1) l else nlAt (i + 1) l) ++ _
    by_cases e : d = 10
    · rw [if_pos e, if_pos e, ih]; rfl
    · rw [if_neg e, if_neg e, ih]
def starts (l : List Nat) : List V := (.int 0) :: (nlAt 0 l).map fun n => .int ((n : Nat) : Int)
theorem nlAt_len : ∀ (l : List Nat) (i : Nat), (nlAt i l).length ≤ l.length
  | [], _ => Nat.le_refl _
  | d :: l, i => by
    show (if d = 10 then (i + 1) :: nlAt (i + 1) l else nlAt (i + 1) l : List Nat).length ≤ _
    by_cases e : d = 10
    · rw [if_pos e]; exact Nat.succ_le_succ (nlAt_len l _)
    · rw [if_neg e]; exact Nat.le_succ_of_le (nlAt_len l _)
/-! ### the promises of k00 -/
def isS (c : Nat) : Bool := decide (c ∈ signsL)
def NotStr (K : PySem.W.Frag) (H : Hp) (x : V) : Prop := ∃ t, TyX K H x t ∧ PySem.W.kitOne K t (.type "str") = some false
def sp_allSigns : Sp := fun vs H Q _ => vs = [] ∧ Q (.str (S signsL)) H
def sp_lawSigns : Sp := fun vs H Q _ => vs = [] ∧ Q (.str (S signsL)) H
def sp_isSign (K : PySem.W.Frag) : Sp := fun vs H Q _ => ∃ x, vs = [x] ∧ ((∃ l, x = .str (S l) ∧ l.length ≤ 100000 ∧ Q (.bl (l.length == 1 && l.all isS)) H) ∨ (NotStr K H x ∧ Q (.bl false) H))
def sp_isText (K : PySem.W.Frag) : Sp := fun vs H Q _ => ∃ x, vs = [x] ∧ ((∃ l, x = .str (S l) ∧ l.length ≤ 100000 ∧ ∀ H', Same H H' → Ks H H' → Q (.bl (l.all isS)) H') ∨ (NotStr K H x ∧ Q (.bl false) H))
def sp_isWord (K : PySem.W.Frag) : Sp := fun vs H Q _ => ∃ x, vs = [x] ∧ ((∃ l, x = .str (S l) ∧ l.length ≤ 100000 ∧ ∀ H', Same H H' → Ks H H' → Q (.bl (l.all isS && (decide (1 ≤ l.length) && decide (l.length ≤ 6)))) H') ∨ (NotStr K H x ∧ Q (.bl false) H))
def sp_linesOf : Sp := fun vs H Q _ => ∃ l, vs = [.str (S l)] ∧ l.length ≤ 100000 ∧ ∀ (H' : Hp) (p : Addr), Same H H' → Ks H H' → H' p = some (.tup ((lns l).map fun x => .str (S x))) → Q (.ref p) H'
def sp_textOf (K : PySem.W.Frag) : Sp := fun vs H Q _ => ∃ (p : Addr) (ls : List (List Nat)), vs = [.ref p] ∧ (SqL K H p (ls.map fun x => .str (S x)) ∨ SqT K H p (ls.map fun x => .str (S x))) ∧ (ls.map List.length).sum + ls.length ≤ 1000000 ∧ Q (.str (S (TL.joinL [10] ls))) H
def sp_lineStarts : Sp := fun vs H Q _ => ∃ l, vs = [.str (S l)] ∧ l.length ≤ 100000 ∧ ∀ (H' : Hp) (p : Addr), Same H H' → Ks H H' → H' p = some (.tup (starts l)) → Q (.ref p) H'
def sp_lawWord : Sp := fun vs H Q _ => ∃ (p c : Addr) (m n : Nat) (sg : List Nat), vs = [.ref p, .str (S sg), .int (n : Int)] ∧ PenAt H p c m ∧ m < 800000 ∧ 1 ≤ n ∧ n ≤ 1000 ∧ 1 ≤ sg.length ∧ sg.length ≤ 1000 ∧
  ∀ (H' : Hp) (t : List Nat), Ks H H' → PenAt H' p c (m + 1 + n) → 1 ≤ t.length → t.length ≤ n → (∀ z ∈ t, z ∈ sg) → Q (.str (S t)) H'
def sp_lawText : Sp := fun vs H Q _ => ∃ (p c : Addr) (m n : Nat) (sg : List Nat), vs = [.ref p, .str (S sg), .int (n : Int)] ∧ PenAt H p c m ∧ m < 800000 ∧ n ≤ 1000 ∧ sg.length ≤ 1000 ∧
  ∀ (H' : Hp) (t : List Nat), Ks H H' → PenAt H' p c (m + 1 + n) → t.length ≤ n → Q (.str (S t)) H'
/-! ### exceptions told -/
theorem ExAt.new {H : Hp} {a C q : Addr} {fs : List (Str × V)} {o : HO} (h : ExAt H a C fs) (n : H q = none) : ExAt (upd H q o) a C fs := by
  rcases h with ⟨e, h⟩ | ⟨d, h1, h2⟩
  · exact .inl ⟨e, by rw [upd_ne (ne_of_none h n)]; exact h⟩
  · exact .inr ⟨d, by rw [upd_ne (ne_of_none h1 n)]; exact h1, by rw [upd_ne (ne_of_none h2 n)]; exact h2⟩
theorem ExAt.same {H H1 : Hp} {a C : Addr} {fs : List (Str × V)} (h : ExAt H a C fs) (s : Same H H1) : ExAt H1 a C fs := by
  rcases h with ⟨e, h⟩ | ⟨d, h1, h2⟩
  · exact .inl ⟨e, s _ _ h⟩
  · exact .inr ⟨d, s _ _ h1, s _ _ h2⟩
theorem exo_nd {e C : Addr} {d : Option Addr} {kvs : List (Key × V)} : exo e C d ≠ .dK kvs := fun z => nomatch (show HO.ext _ = HO.dK kvs from z)
theorem exd_nd {e : Addr} {fs : List (Str × V)} {kvs : List (Key × V)} : exd e fs ≠ .dK kvs := fun z => nomatch (show HO.ext _ = HO.dK kvs from z)
theorem ExAt.ks {H H1 : Hp} {a C : Addr} {fs : List (Str × V)} (h : ExAt H a C fs) (s : Ks H H1) : ExAt H1 a C fs := by
  rcases h with ⟨e, h⟩ | ⟨d, h1, h2⟩
  · exact .inl ⟨e, s.1 _ _ h fun _ => exo_nd⟩
  · exact .inr ⟨d, s.1 _ _ h1 fun _ => exo_nd, s.1 _ _ h2 fun _ => exd_nd⟩
def sp_told (K : PySem.W.Frag) (cs : List Addr) : Sp := fun vs H Q _ => ∃ (e : Addr) (i : Nat) (fs : List (Str × V)), vs = [.ref e] ∧ i < 26 ∧ ExAt H e (cs.getD i 0) fs ∧ ∀ (H' : Hp) (r : Addr), Same H H' → Ks H H' → H' r = some (.lst [.int (i : Int)]) → Q (.ref r) H'
theorem is_step {P : Program} {w : World} {K : PySem.W.Frag} {mg : Str → Option Value} {base : Heap} {cs : List Addr} {W e : Addr} {i : Nat} {fs : List (Str × V)} {σ : L2.St} {H : Hp} {Q : VK} (ES : Es P w K mg base cs W) (j : Nat) (hj : j < 26) (hi : i < 26)
    (s0 : σ[0]? = some (some (.ref e))) (ex : ExAt H e (cs.getD i 0) fs) (q : Q (.bl (decide (j = i))) H) : tCB (rIsX K) (tCons (tVar 0) (tCons (tC (.ref (cs.getD j 0))) tNil)) σ H Q :=
  ⟨_, s0, e, _, fs, _, _, _, rfl, ex, (ES.up i hi).2.2.1, .own _, ES.two i j hi hj, q⟩
theorem ifT {A B : Prop} (h : A) : if (true : Bool) = true then A else B := by rw [if_pos rfl]; exact h
theorem ifF {A B : Prop} (h : B) : if (false : Bool) = true then A else B := by rw [if_neg Bool.false_ne_true]; exact h
/-! ### rows of errors -/
def RowAt (cs : List Addr) (VS : V → Prop) (H : Hp) (v : V) : Prop := ∃ (tp e t d : Addr) (n : Nat) (vs : List V) (fs : List (Str × V)), v = .ref tp ∧ n < 26 ∧ H tp = some (.tup [.int (n : Int), .ref e, .ref t, .ref d]) ∧ H t = some (.lst vs) ∧ H d = some (.lst vs) ∧
  ExAt H e (cs.getD n 0) fs ∧ (∀ x ∈ vs, VS x) ∧ vs.length ≤ 3
theorem RowAt.ks {cs : List Addr} {VS : V → Prop} {H H1 : Hp} {v : V} (h : RowAt cs VS H v) (s : Ks H H1) : RowAt cs VS H1 v := by
  obtain ⟨tp, e, t, d, n, vs, fs, h1, h2, h3, h4, h5, h6, h7, h8⟩ := h
  exact ⟨tp, e, t, d, n, vs, fs, h1, h2, s.tup h3, s.lst h4, s.lst h5, h6.ks s, h7, h8⟩
def tFs (K : PySem.W.Frag) (i : Nat) : List Str → TA
  | [] => tNil
  | f :: fs => tCons (tXa K f (tVar i)) (tFs K i fs)
def tVs : List Nat → TA
  | [] => tNil
  | i :: is => tCons (tVar i) (tVs is)
theorem vs_step {σ : L2.St} {H : Hp} : ∀ {is : List Nat} {vs : List V} {R : List V → Hp → Prop}, is.map (fun i => σ[i]?) = vs.map (fun v => some (some v)) → R vs H → tVs is σ H R
  | [], [], _, _, h => h
  | i :: is, v :: vs, R, e, h => by
    have e' := List.cons.inj e
    exact ⟨v, e'.1, vs_step (R := fun ws H1 => R (v :: ws) H1) e'.2 h⟩
  | [], _ :: _, _, e, _ => nomatch e
  | _ :: _, [], _, e, _ => nomatch e
theorem fs_step {K : PySem.W.Frag} {σ : L2.St} {H : Hp} {a C : Addr} {rs : List (Str × V)} {i : Nat} (s : σ[i]? = some (some (.ref a))) (ex : ExAt H a C rs) (x : XfC K C) :
    ∀ {fs : List Str} {vs : List V} {R : List V → Hp → Prop}, (∀ f ∈ fs, PySem.W.findIn K (.ref C) f = some none) → fs.map (fun f => rs.lookup f) = vs.map some → R vs H → tFs K i fs σ H R
  | [], [], _, _, _, h => h
  | f :: fs, v :: vs, R, no, e, h => by
    have e' := List.cons.inj e
    exact ⟨_, s, a, C, rs, v, rfl, x, no f (List.mem_cons_self ..), ex, e'.1, fs_step s ex x (R := fun ws H1 => R (v :: ws) H1) (fun g hg => no g (List.mem_cons_of_mem _ hg)) e'.2 h⟩
  | [], _ :: _, _, _, e, _ => nomatch e
  | _ :: _, [], _, _, e, _ => nomatch e
/-- a new error of the class at C -/
theorem mk_step {σ : L2.St} {H : Hp} {Q : VK} {C : Addr} {fs : List Str} {is : List Nat} {vs : List V} (hs : is.map (fun i => σ[i]?) = vs.map (fun v => some (some v))) (hl : vs.length = fs.length)
    (q : ∀ a H2, Same H H2 → ExAt H2 a C (fs.zip vs).reverse → Q (.ref a) H2) : tEk C fs (tVs is) σ H Q :=
  vs_step hs ⟨hl, fun a H2 _ s _ ex => q a H2 s ex⟩
/-- (n, error, [its fields], [what is due]) -/
theorem row_step {P : Program} {w : World} {K : PySem.W.Frag} {mg : Str → Option Value} {base : Heap} {cs : List Addr} {σ : L2.St} {H : Hp} {Q : VK} {a i : Nat} {nm : Str} {fs : List Str} {is : List Nat} {vs : List V} {VS : V → Prop} (n : Nat)
    (E : Ek P w K mg base nm (cs.getD n 0) fs) (hn : n < 26) (s : σ[i]? = some (some (.ref a))) (ex : ExAt H a (cs.getD n 0) (fs.zip vs).reverse) (hf : fs.map (fun f => (fs.zip vs).reverse.lookup f) = vs.map some)
    (hs : is.map (fun i => σ[i]?) = vs.map (fun v => some (some v))) (hv : ∀ x ∈ vs, VS x) (hl : vs.length ≤ 3)
    (q : ∀ tp H2, Same H H2 → RowAt cs VS H2 (.ref tp) → Q (.ref tp) H2) :
    tTup (tCons (tC (.int (n : Int))) (tCons (tVar i) (tCons (tLst (tFs K i fs)) (tCons (tLst (tVs is)) tNil)))) σ H Q := by
  refine ⟨_, s, fs_step s ex E.ec.x E.no hf ⟨szB (by omega), fun t ht => vs_step hs ⟨szB (by omega), fun d hd => ⟨szB (by show 4 ≤ 1000000; decide), fun tp htp => ?_⟩⟩⟩⟩
  have s1 : Same H (upd (upd (upd H t (.lst vs)) d (.lst vs)) tp (.tup [.int (n : Int), .ref a, .ref t, .ref d])) := same_new (same_new (same_new (fun _ _ z => z) ht _) hd _) htp _
  have e2 : (upd (upd H t (.lst vs)) d (.lst vs)) d = some (.lst vs) := upd_same
  have e1 : (upd H t (.lst vs)) t = some (.lst vs) := upd_same
  have e3 : (upd (upd H t (.lst vs)) d (.lst vs)) t = some (.lst vs) := by rw [upd_ne (ne_of_none e1 hd)]; exact e1
  exact q tp _ s1 ⟨tp, a, t, d, n, vs, _, rfl, hn, upd_same, by rw [upd_ne (ne_of_none e3 htp)]; exact e3, by rw [upd_ne (ne_of_none e2 htp)]; exact e2, ex.same s1, hv, hl⟩
def RowsAt (cs : List Addr) (VS : V → Prop) (H : Hp) (L : Addr) (m : Nat) : Prop := ∃ xs : List V, H L = some (.lst xs) ∧ xs.length ≤ m ∧ ∀ v ∈ xs, RowAt cs VS H v
theorem RowsAt.ks {cs : List Addr} {VS : V → Prop} {H H1 : Hp} {L m : Nat} (h : RowsAt cs VS H L m) (s : Ks H H1) : RowsAt cs VS H1 L m := by
  obtain ⟨xs, h1, h2, h3⟩ := h
  exact ⟨xs, s.lst h1, h2, fun v hv => (h3 v hv).ks s⟩
theorem RowsAt.new {cs : List Addr} {VS : V → Prop} {H : Hp} {p : Addr} {xs : List V} (hp : H p = none) (h : ∀ v ∈ xs, RowAt cs VS H v) : RowsAt cs VS (upd H p (.lst xs)) p xs.length :=
  ⟨xs, upd_same, Nat.le_refl _, fun v hv => (h v hv).ks (Ks.new1 hp _)⟩
theorem cat_step {cs : List Addr} {VS : V → Prop} {H : Hp} {L1 L2 m1 m2 : Nat} {Q : VK} (h1 : RowsAt cs VS H L1 m1) (h2 : RowsAt cs VS H L2 m2) (hm : m1 + m2 ≤ 1000) (q : ∀ p H2, Same H H2 → RowsAt cs VS H2 p (m1 + m2) → Q (.ref p) H2) : rCat (.ref L1) (.ref L2) H Q := by
  obtain ⟨xs, a1, a2, a3⟩ := h1
  obtain ⟨ys, b1, b2, b3⟩ := h2
  refine ⟨L1, L2, xs, ys, rfl, rfl, a1, b1, szB (by omega), fun p hp => q p _ (same_new (fun _ _ z => z) hp _) ⟨xs ++ ys, upd_same, by rw [List.length_append]; omega, fun v hv => ?_⟩⟩
  rcases List.mem_append.mp hv with hv | hv
  · exact (a3 v hv).ks (Ks.new1 hp _)
  · exact (b3 v hv).ks (Ks.new1 hp _)
def sp_firstErrors (cs : List Addr) : Sp := fun vs H Q _ => ∃ a b c : V, vs = [a, b, c] ∧ ∀ (H' : Hp) (r : Addr), Same H H' → RowsAt cs (fun x => x = a ∨ x = b ∨ x = c) H' r 11 → Q (.ref r) H'
def sp_otherErrors (cs : List Addr) : Sp := fun vs H Q _ => ∃ a b : V, vs = [a, b] ∧ ∀ (H' : Hp) (r : Addr), Same H H' → RowsAt cs (fun x => x = a ∨ x = b) H' r 16 → Q (.ref r) H'
theorem Same.trans {H H1 H2 : Hp} (a : Same H H1) (b : Same H1 H2) : Same H H2 := fun c o e => b c o (a c o e)
/-- (n, C(), [], []) -/
theorem row0_step {P : Program} {w : World} {K : PySem.W.Frag} {mg : Str → Option Value} {base : Heap} {cs : List Addr} {σ : L2.St} {H : Hp} {Q : VK} {nm : Str} {VS : V → Prop} (n : Nat)
    (E : Ek P w K mg base nm (cs.getD n 0) []) (hn : n < 26) (q : ∀ tp H2, Same H H2 → RowAt cs VS H2 (.ref tp) → Q (.ref tp) H2) :
    tTup (tCons (tC (.int (n : Int))) (tCons (tEk (cs.getD n 0) [] tNil) (tCons (tLst tNil) (tCons (tLst tNil) tNil)))) σ H Q := by
  refine ⟨rfl, fun a H1 _ s0 _ ex => ?_⟩
  refine ⟨szB (Nat.zero_le _), fun t ht => ⟨szB (Nat.zero_le _), fun d hd => ⟨szB (by show 4 ≤ 1000000; decide), fun tp htp => ?_⟩⟩⟩
  have s1 : Same H1 (upd (upd (upd H1 t (.lst [])) d (.lst [])) tp (.tup [.int (n : Int), .ref a, .ref t, .ref d])) := same_new (same_new (same_new (fun _ _ z => z) ht _) hd _) htp _
  have e2 : (upd (upd H1 t (.lst [])) d (.lst [])) d = some (.lst []) := upd_same
  have e1 : (upd H1 t (.lst [])) t = some (.lst []) := upd_same
  have e3 : (upd (upd H1 t (.lst [])) d (.lst [])) t = some (.lst []) := by rw [upd_ne (ne_of_none e1 hd)]; exact e1
  exact q tp _ (Same.trans s0 s1) ⟨tp, a, t, d, n, [], _, rfl, hn, upd_same, by rw [upd_ne (ne_of_none e3 htp)]; exact e3, by rw [upd_ne (ne_of_none e2 htp)]; exact e2, ex.same s1, (fun _ h => nomatch h), by decide⟩
theorem rowAt_of {cs : List Addr} {VS : V → Prop} {H : Hp} {a t d tp n : Nat} {vs : List V} {fs : List (Str × V)} (hn : n < 26) (ex : ExAt H a (cs.getD n 0) fs) (ht : H t = none) (hd : (upd H t (.lst vs)) d = none) (htp : (upd (upd H t (.lst vs)) d (.lst vs)) tp = none)
    (hv : ∀ x ∈ vs, VS x) (hl : vs.length ≤ 3) : Same H (upd (upd (upd H t (.lst vs)) d (.lst vs)) tp (.tup [.int (n : Int), .ref a, .ref t, .ref d])) ∧ RowAt cs VS (upd (upd (upd H t (.lst vs)) d (.lst vs)) tp (.tup [.int (n : Int), .ref a, .ref t, .ref d])) (.ref tp) := by
  have s1 : Same H (upd (upd (upd H t (.lst vs)) d (.lst vs)) tp (.tup [.int (n : Int), .ref a, .ref t, .ref d])) := same_new (same_new (same_new (fun _ _ z => z) ht _) hd _) htp _
  have e2 : (upd (upd H t (.lst vs)) d (.lst vs)) d = some (.lst vs) := upd_same
  have e1 : (upd H t (.lst vs)) t = some (.lst vs) := upd_same
  have e3 : (upd (upd H t (.lst vs)) d (.lst vs)) t = some (.lst vs) := by rw [upd_ne (ne_of_none e1 hd)]; exact e1
  exact ⟨s1, ⟨tp, a, t, d, n, vs, _, rfl, hn, upd_same, by rw [upd_ne (ne_of_none e3 htp)]; exact e3, by rw [upd_ne (ne_of_none e2 htp)]; exact e2, ex.same s1, hv, hl⟩⟩

end
end Vf

set_option maxRecDepth 100000
set_option maxHeartbeats 4000000
namespace Vf
open PySem PySem.Spec PyProof.Rows L2 SX
section
variable {P : Program} {w : World} {K : PySem.W.Frag} {mg : Str → Option Value} {base : Heap}
def sp_lawTextB : Sp := fun vs H Q _ => ∃ (p c : Addr) (m n : Nat) (sg : List Nat), vs = [.ref p, .str (S sg), .int (n : Int)] ∧ PenAt H p c m ∧ m < 800000 ∧ n ≤ 1000 ∧ sg.length ≤ 1000 ∧ (∀ z ∈ sg, z < 1000) ∧
  ∀ (H' : Hp) (t : List Nat), Ks H H' → PenAt H' p c (m + 1 + n) → t.length ≤ n → (∀ z ∈ t, z < 1000) → Q (.str (S t)) H'
def sp_areSignsRight : Sp := fun vs H Q _ => ∃ (p c : Addr) (m : Nat), vs = [.ref p] ∧ PenAt H p c m ∧ m < 700000 ∧ ∀ H', Ks H H' → PenAt H' p c (m + 20) → Q (.bl true) H'
def sp_areLinesRight : Sp := fun vs H Q _ => ∃ (p c : Addr) (m : Nat), vs = [.ref p] ∧ PenAt H p c m ∧ m < 700000 ∧ ∀ H', Ks H H' → PenAt H' p c (m + 40) → Q (.bl true) H'
theorem hu65 {k : Nat} {A : Around} (r : Room k A) : A.units + 65 < cLine := by have := r.un; omega

end
end Vf

set_option maxRecDepth 100000
set_option maxHeartbeats 4000000
namespace Vf
open PySem PySem.Spec PyProof.Rows L2 SX
section
variable {P : Program} {w : World} {K : PySem.W.Frag} {mg : Str → Option Value} {base : Heap}
theorem ok_isText {f : Addr} {fd : FuncData} (F : C8.Def K mg "is_text" s_isText f fd) (b : Binds K fd ["value"] []) (T : Tx K w mg)  : C8.Cal P w K mg base 1 "is_text" (sp_isText K) [] := by
  refine C8.cal0 F b .nil sc_isText (fun vs H Q E h => ?_) (fun cdv A outer s H vs Q E hr h => ?_)
  · obtain ⟨x, rfl, _⟩ := h; rfl
  have hu := hu_of hr
  refine ⟨_, (pss_one (ps_ret (pe_and (pe_callB call_isi (by rfl) T.z_isinstance (by decide +kernel) (pa_cons (pv 0) (pa_cons (pe_bltn (v := .ty "str") (by rfl) T.z_str (by decide +kernel) rfl) pa_nil))) (pe_one (pe_callB (cr_all rfl) (by rfl) T.z_all (by decide +kernel) (pa_cons (pe_lc (own := [("sign", 1)]) (g := (gName 1)) (tt := tYes) rfl sc_isText.nd (pi_str (pv 0)) (blkOk_by (N := N_isText) (sc := C8.fnScope s_isText) (by decide +kernel)) (fun _ _ _ _ _ => pg_name (i := 1) sc_isText.nd rfl (Or.inl rfl)) (fun _ _ _ _ _ => pts_nil) (fun _ _ _ _ _ => (pe_cmpR op_in_sign (pv 1) (C8.pe_gc rfl T.g_SIGNS) rfl))) pa_nil)))))), ?_⟩

  obtain ⟨x, rfl, h⟩ := h
  rcases h with ⟨l, rfl, hl, q⟩ | ⟨⟨t, ty, ek⟩, q⟩
  · refine ⟨_, rfl, _, _, _, _, true, rfl, .ty "str", .base (.str _), kit_ty (by decide +kernel), true, rfl, ?_⟩
    rw [if_pos rfl]
    refine ⟨_, rfl, _, rfl, fun D hD => ?_⟩
    refine lc_it (walk_str (z := S l)) (fun i H' => H' = upd H D (.lst ((l.take i).map fun c => V.bl (isS c)))) rfl (fun _ _ _ _ => trivial) (fun i x H1 H2 hi e y => ?_) (fun H1 e => ?_)
    · obtain ⟨eH, c, hc, rfl⟩ := y
      subst eH
      have hc' : l[i]? = some c := by simpa using hc
      refine ⟨rfl, ?_⟩
      dsimp only [tYes]
      rw [if_pos rfl]
      refine ⟨_, rfl, c, S signsL, rfl, rfl, ?_⟩
      subst e
      refine ⟨_, upd_same, szL (by rw [List.length_map, List.length_take]; omega), ?_⟩
      rw [upd_upd, List.take_add_one, hc']
      simp [isS]
    · subst e
      refine ⟨D, l.map isS, rfl, SqL.of (by rw [upd_same]; simp [List.take_length]), ?_⟩
      rw [List.all_map]
      exact q _ (same_new (fun _ _ z => z) hD _) (Ks.new1 hD _)
  · refine ⟨_, rfl, _, _, _, _, false, rfl, .ty "str", ty, ek, false, rfl, ?_⟩
    rw [if_neg Bool.false_ne_true]
    exact q

end
end Vf

set_option maxRecDepth 100000
set_option maxHeartbeats 4000000
namespace Vf
open PySem PySem.Spec PyProof.Rows L2 SX
section
variable {P : Program} {w : World} {K : PySem.W.Frag} {mg : Str → Option Value} {base : Heap}
theorem ok_lawText {f : Addr} {fd : FuncData} (F : C8.Def K mg "_law_text" s_lawText f fd) (b : Binds K fd ["_law_pen_here", "_law_signs", "_law_most"] []) (T : Tx K w mg) (C_draw : C8.Cal P w K mg base 1 "_law_draw" sp_draw []) (C_pick : C8.Cal P w K mg base 2 "_law_pick" sp_pick []) : C8.Cal P w K mg base 3 "_law_text" sp_lawTextB [] := by
  refine C8.cal0 F b .nil sc_lawText (fun vs H Q E h => ?_) (fun cdv A outer s H vs Q E hr h => ?_)
  · obtain ⟨p, c, m, n, sg, rfl, _⟩ := h; rfl
  have hu := hu_of hr
  refine ⟨_, (pss_one (ps_ret (pe_join pe_str (pe_lc (own := [("_law_k", 3)]) (g := (gName 3)) (tt := tYes) rfl sc_lawText.nd (pi_range1 (by rfl) T.z_range (pa_cons (C8.pe_c C_draw hr (by decide) rfl (pa_cons (pv 0) (pa_cons (pe_op op_add (pv 2) pe_int) pa_nil))) pa_nil)) (blkOk_by (N := N_lawText) (sc := C8.fnScope s_lawText) (by decide +kernel)) (fun _ _ _ _ _ => pg_name (i := 3) sc_lawText.nd rfl (Or.inl rfl)) (fun _ _ _ _ _ => pts_nil) (fun _ _ _ _ _ => (C8.pe_c C_pick hr (by decide) rfl (pa_cons (pv 0) (pa_cons (pe_op op_add_str (pe_op op_add_str (pv 1) (pv 1)) pe_str) pa_nil)))))))), ?_⟩

  obtain ⟨p, c, m, n, sg, rfl, hp, hm, hn2, hs2, hsm, q⟩ := h
  refine ⟨⟨_, rfl⟩, _, rfl, _, rfl, _, _, rfl, rfl, p, c, m, n + 1, by simp, hp, by omega, by omega, by omega, fun H1 r k1 k2 hr1 => ?_⟩
  refine ⟨_, rfl, by omega, by omega, fun D hD => ?_⟩
  rw [show ((r : Int)).toNat = r by omega]
  have el : S sg ++ S sg ++ ("\n\nz" : Str) = S (sg ++ sg ++ [10, 10, 122]) := by
    rw [show ("\n\nz" : Str) = S [10, 10, 122] by decide +kernel, S_cat, S_cat]
  have hbound : ∀ z ∈ sg ++ sg ++ [10, 10, 122], z < 1000 := fun z hz => by
    rcases List.mem_append.mp hz with hz | hz
    · rcases List.mem_append.mp hz with hz | hz <;> exact hsm z hz
    · simp at hz; omega
  refine lc_pen (m0 := m + 1) (s := 1) (k := 3) (fun v _ => Ones (· < 1000) v) (fun _ _ _ _ h => h) (by show 3 < 4; decide) hD k2 (by omega) (fun i H2 m2 Q2 hi hp2 hm2 hq => ?_) (fun H2 xs e1 e2 e3 e4 e5 => ?_)
  · refine ⟨_, rfl, _, rfl, _, rfl, _, _, rfl, rfl, by rw [S_len]; exact szB (by omega), _, _, rfl, rfl, (by show (S sg ++ S sg).length + 3 ≤ sizeLine; rw [S_cat, S_len, List.length_append]; exact szB (by omega)), p, c, m2, _, rfl, hp2, by omega, .inl ⟨sg ++ sg ++ [10, 10, 122], by rw [el], by rw [List.length_append]; exact Nat.le_add_left_of_le (by decide), by rw [List.length_append, List.length_append]; show _ + _ + 3 ≤ _; omega, fun H3 ch j1 j2 j3 => hq H3 _ j1 j2 ⟨ch, rfl, hbound ch j3⟩⟩⟩
  · obtain ⟨t, rfl, ht⟩ := ones_of e2
    have et : t.length = r := by rw [← e1, List.length_map, List.length_map]
    refine ⟨S [], D, t.map fun c => S [c], rfl, rfl, .inl (SqL.of e3), ones_bound (by omega), ?_⟩
    rw [join_ones]
    exact q H2 t (k1.trans e4) (e5.mono (by omega)) (by omega) ht

end
end Vf

set_option maxRecDepth 100000
set_option maxHeartbeats 4000000
namespace Vf
open PySem PySem.Spec PyProof.Rows L2 SX
section
variable {P : Program} {w : World} {K : PySem.W.Frag} {mg : Str → Option Value} {base : Heap}
/-- the list of answers as far as n, at L -/
def StT (H0 : Hp) (i : Nat) (H : Hp) (L n : Nat) : Prop := Same H0 H ∧ Ks H0 H ∧ H L = some (.lst ((List.range n).map fun j => V.bl (decide (j = i))))
abbrev tIs (K : PySem.W.Frag) (cs : List Addr) (j : Nat) : TE := tCB (rIsX K) (tCons (tVar 0) (tCons (tC (.ref (cs.getD j 0))) tNil))
theorem range3 (i n : Nat) : ((List.range n).map fun j => V.bl (decide (j = i))) ++ [V.bl (decide (n = i)), V.bl (decide (n + 1 = i)), V.bl (decide (n + 2 = i))] = (List.range (n + 3)).map fun j => V.bl (decide (j = i)) := by
  rw [List.range_succ, List.range_succ, List.range_succ]
  simp
theorem range2 (i n : Nat) : ((List.range n).map fun j => V.bl (decide (j = i))) ++ [V.bl (decide (n = i)), V.bl (decide (n + 1 = i))] = (List.range (n + 2)).map fun j => V.bl (decide (j = i)) := by
  rw [List.range_succ, List.range_succ]
  simp
theorem StT.next {H0 H : Hp} {i L n m p q : Nat} {ys : List V} {o : HO} (h : StT H0 i H L n) (hp : H p = none) (hq : (upd H p o) q = none) (e : ((List.range n).map fun j => V.bl (decide (j = i))) ++ ys = (List.range m).map fun j => V.bl (decide (j = i))) :
    StT H0 i (upd (upd H p o) q (.lst (((List.range n).map fun j => V.bl (decide (j = i))) ++ ys))) q m :=
  ⟨same_new (same_new h.1 hp _) hq _, (h.2.1.trans (Ks.new1 hp _)).trans (Ks.new1 hq _), by rw [upd_same, e]⟩
theorem row3 {K : PySem.W.Frag} {cs : List Addr} {P : Program} {mg : Str → Option Value} {base : Heap} {W e i : Nat} {fs : List (Str × V)} {H0 H : Hp} {L : Addr} {u v : Option V} {rest : TS} {D : Ends} (n : Nat) (ES : Es P w K mg base cs W) (hn : n + 3 ≤ 26) (hi : i < 26)
    (ex : ExAt H0 e (cs.getD i 0) fs) (st : StT H0 i H L n) (k : ∀ H2 L2, StT H0 i H2 L2 (n + 3) → rest D [some (.ref e), some (.ref L2), u, v] H2) :
    tSeq (tAsg (tOp rCat (tVar 1) (tLst (tCons (tIs K cs n) (tCons (tIs K cs (n + 1)) (tCons (tIs K cs (n + 2)) tNil))))) (gName 1)) rest D [some (.ref e), some (.ref L), u, v] H := by
  have ex1 := ex.same st.1
  refine ⟨_, rfl, ?_⟩
  refine is_step ES n (by omega) hi rfl ex1 (is_step ES (n + 1) (by omega) hi rfl ex1 (is_step ES (n + 2) (by omega) hi rfl ex1 ⟨sz_3, fun p hp => ?_⟩))
  refine ⟨L, p, _, _, rfl, rfl, by rw [upd_ne (ne_of_none st.2.2 hp)]; exact st.2.2, upd_same, szB (by rw [List.length_map, List.length_range]; show n + 3 ≤ _; omega), fun q hq => ?_⟩
  exact k _ q (st.next hp hq (range3 i n))
theorem row2 {K : PySem.W.Frag} {cs : List Addr} {P : Program} {mg : Str → Option Value} {base : Heap} {W e i : Nat} {fs : List (Str × V)} {H0 H : Hp} {L : Addr} {u v : Option V} {rest : TS} {D : Ends} (n : Nat) (ES : Es P w K mg base cs W) (hn : n + 2 ≤ 26) (hi : i < 26)
    (ex : ExAt H0 e (cs.getD i 0) fs) (st : StT H0 i H L n) (k : ∀ H2 L2, StT H0 i H2 L2 (n + 2) → rest D [some (.ref e), some (.ref L2), u, v] H2) :
    tSeq (tAsg (tOp rCat (tVar 1) (tLst (tCons (tIs K cs n) (tCons (tIs K cs (n + 1)) tNil)))) (gName 1)) rest D [some (.ref e), some (.ref L), u, v] H := by
  have ex1 := ex.same st.1
  refine ⟨_, rfl, ?_⟩
  refine is_step ES n (by omega) hi rfl ex1 (is_step ES (n + 1) (by omega) hi rfl ex1 ⟨sz_2, fun p hp => ?_⟩)
  refine ⟨L, p, _, _, rfl, rfl, by rw [upd_ne (ne_of_none st.2.2 hp)]; exact st.2.2, upd_same, szB (by rw [List.length_map, List.length_range]; show n + 2 ≤ _; omega), fun q hq => ?_⟩
  exact k _ q (st.next hp hq (range2 i n))
theorem ok_told {f : Addr} {fd : FuncData} (F : C8.Def K mg "_law_told" s_told f fd) (b : Binds K fd ["_law_error"] []) (T : Tx K w mg) {cs0 : List Addr} {W0 : Addr} (ES : Es P w K mg base cs0 W0)  : C8.Cal P w K mg base 1 "_law_told" (sp_told K cs0) [] := by
  refine C8.cal0 F b .nil sc_told (fun vs H Q E h => ?_) (fun cdv A outer s H vs Q E hr h => ?_)
  · obtain ⟨e, i, fs, rfl, _⟩ := h; rfl
  have hu := hu_of hr
  refine ⟨_, (pss_cons (ps_set (i := 1) sc_told.nd rfl (Or.inr rfl) (pe_lst (pa_cons (pe_callB call_isX (by rfl) T.z_isinstance (by decide +kernel) (pa_cons (pv 0) (pa_cons (pe_cls (ES.e_BadText.ec.g) rfl) pa_nil))) (pa_cons (pe_callB call_isX (by rfl) T.z_isinstance (by decide +kernel) (pa_cons (pv 0) (pa_cons (pe_cls (ES.e_BadWord.ec.g) rfl) pa_nil))) (pa_cons (pe_callB call_isX (by rfl) T.z_isinstance (by decide +kernel) (pa_cons (pv 0) (pa_cons (pe_cls (ES.e_BadNumber.ec.g) rfl) pa_nil))) pa_nil)))))
      (pss_cons (ps_set (i := 1) sc_told.nd rfl (Or.inr rfl) (pe_op op_cat (pv 1) (pe_lst (pa_cons (pe_callB call_isX (by rfl) T.z_isinstance (by decide +kernel) (pa_cons (pv 0) (pa_cons (pe_cls (ES.e_BadStep.ec.g) rfl) pa_nil))) (pa_cons (pe_callB call_isX (by rfl) T.z_isinstance (by decide +kernel) (pa_cons (pv 0) (pa_cons (pe_cls (ES.e_TooMany.ec.g) rfl) pa_nil))) (pa_cons (pe_callB call_isX (by rfl) T.z_isinstance (by decide +kernel) (pa_cons (pv 0) (pa_cons (pe_cls (ES.e_TooHeavy.ec.g) rfl) pa_nil))) pa_nil))))))
      (pss_cons (ps_set (i := 1) sc_told.nd rfl (Or.inr rfl) (pe_op op_cat (pv 1) (pe_lst (pa_cons (pe_callB call_isX (by rfl) T.z_isinstance (by decide +kernel) (pa_cons (pv 0) (pa_cons (pe_cls (ES.e_Refused.ec.g) rfl) pa_nil))) (pa_cons (pe_callB call_isX (by rfl) T.z_isinstance (by decide +kernel) (pa_cons (pv 0) (pa_cons (pe_cls (ES.e_NoTongue.ec.g) rfl) pa_nil))) (pa_cons (pe_callB call_isX (by rfl) T.z_isinstance (by decide +kernel) (pa_cons (pv 0) (pa_cons (pe_cls (ES.e_BadName.ec.g) rfl) pa_nil))) pa_nil))))))
      (pss_cons (ps_set (i := 1) sc_told.nd rfl (Or.inr rfl) (pe_op op_cat (pv 1) (pe_lst (pa_cons (pe_callB call_isX (by rfl) T.z_isinstance (by decide +kernel) (pa_cons (pv 0) (pa_cons (pe_cls (ES.e_TakenName.ec.g) rfl) pa_nil))) (pa_cons (pe_callB call_isX (by rfl) T.z_isinstance (by decide +kernel) (pa_cons (pv 0) (pa_cons (pe_cls (ES.e_NoFile.ec.g) rfl) pa_nil))) (pa_cons (pe_callB call_isX (by rfl) T.z_isinstance (by decide +kernel) (pa_cons (pv 0) (pa_cons (pe_cls (ES.e_NoScript.ec.g) rfl) pa_nil))) pa_nil))))))
      (pss_cons (ps_set (i := 1) sc_told.nd rfl (Or.inr rfl) (pe_op op_cat (pv 1) (pe_lst (pa_cons (pe_callB call_isX (by rfl) T.z_isinstance (by decide +kernel) (pa_cons (pv 0) (pa_cons (pe_cls (ES.e_NoGuard.ec.g) rfl) pa_nil))) (pa_cons (pe_callB call_isX (by rfl) T.z_isinstance (by decide +kernel) (pa_cons (pv 0) (pa_cons (pe_cls (ES.e_Broken.ec.g) rfl) pa_nil))) (pa_cons (pe_callB call_isX (by rfl) T.z_isinstance (by decide +kernel) (pa_cons (pv 0) (pa_cons (pe_cls (ES.e_BadPlace.ec.g) rfl) pa_nil))) pa_nil))))))
      (pss_cons (ps_set (i := 1) sc_told.nd rfl (Or.inr rfl) (pe_op op_cat (pv 1) (pe_lst (pa_cons (pe_callB call_isX (by rfl) T.z_isinstance (by decide +kernel) (pa_cons (pv 0) (pa_cons (pe_cls (ES.e_NoLine.ec.g) rfl) pa_nil))) (pa_cons (pe_callB call_isX (by rfl) T.z_isinstance (by decide +kernel) (pa_cons (pv 0) (pa_cons (pe_cls (ES.e_Touched.ec.g) rfl) pa_nil))) (pa_cons (pe_callB call_isX (by rfl) T.z_isinstance (by decide +kernel) (pa_cons (pv 0) (pa_cons (pe_cls (ES.e_AllLines.ec.g) rfl) pa_nil))) pa_nil))))))
      (pss_cons (ps_set (i := 1) sc_told.nd rfl (Or.inr rfl) (pe_op op_cat (pv 1) (pe_lst (pa_cons (pe_callB call_isX (by rfl) T.z_isinstance (by decide +kernel) (pa_cons (pv 0) (pa_cons (pe_cls (ES.e_NoHidden.ec.g) rfl) pa_nil))) (pa_cons (pe_callB call_isX (by rfl) T.z_isinstance (by decide +kernel) (pa_cons (pv 0) (pa_cons (pe_cls (ES.e_Unlike.ec.g) rfl) pa_nil))) (pa_cons (pe_callB call_isX (by rfl) T.z_isinstance (by decide +kernel) (pa_cons (pv 0) (pa_cons (pe_cls (ES.e_Conflict.ec.g) rfl) pa_nil))) pa_nil))))))
      (pss_cons (ps_set (i := 1) sc_told.nd rfl (Or.inr rfl) (pe_op op_cat (pv 1) (pe_lst (pa_cons (pe_callB call_isX (by rfl) T.z_isinstance (by decide +kernel) (pa_cons (pv 0) (pa_cons (pe_cls (ES.e_MayConflict.ec.g) rfl) pa_nil))) (pa_cons (pe_callB call_isX (by rfl) T.z_isinstance (by decide +kernel) (pa_cons (pv 0) (pa_cons (pe_cls (ES.e_NothingNoted.ec.g) rfl) pa_nil))) (pa_cons (pe_callB call_isX (by rfl) T.z_isinstance (by decide +kernel) (pa_cons (pv 0) (pa_cons (pe_cls (ES.e_MixedTongues.ec.g) rfl) pa_nil))) pa_nil))))))
      (pss_cons (ps_set (i := 1) sc_told.nd rfl (Or.inr rfl) (pe_op op_cat (pv 1) (pe_lst (pa_cons (pe_callB call_isX (by rfl) T.z_isinstance (by decide +kernel) (pa_cons (pv 0) (pa_cons (pe_cls (ES.e_NothingToUndo.ec.g) rfl) pa_nil))) (pa_cons (pe_callB call_isX (by rfl) T.z_isinstance (by decide +kernel) (pa_cons (pv 0) (pa_cons (pe_cls (ES.e_NothingToRedo.ec.g) rfl) pa_nil))) pa_nil)))))
      (pss_cons (ps_set (i := 2) sc_told.nd rfl (Or.inl rfl) (pe_and (pe_callB call_isX (by rfl) T.z_isinstance (by decide +kernel) (pa_cons (pv 0) (pa_cons (pe_cls (ES.b_WorkshopError) rfl) pa_nil))) (pe_one (pe_callB call_isX (by rfl) T.z_isinstance (by decide +kernel) (pa_cons (pv 0) (pa_cons (pe_bltn (v := .ty "ValueError") (by rfl) T.z_ValueError (by decide +kernel) rfl) pa_nil))))))
      (pss_one (ps_ret (pe_ifExp (pt_val (pv 2)) (pe_lc (own := [("_law_k", 3)]) (g := (gName 3)) (tt := _) rfl sc_told.nd (pi_range1 (by rfl) T.z_range (pa_cons (pe_callB call_len (by rfl) T.z_len PySem.boot_len (pa_cons (pv 1) pa_nil)) pa_nil)) (blkOk_by (N := N_told) (sc := C8.fnScope s_told) (by decide +kernel)) (fun _ _ _ _ _ => pg_name (i := 3) sc_told.nd rfl (Or.inl rfl)) (fun _ _ _ _ _ => pts_one (pt_val (pe_ix (ix_listK (K := K) rfl) (pv 1) (pv 3) (fun _ _ => rfl)))) (fun _ _ _ _ _ => (pv 3))) (pe_lst pa_nil)))))))))))))), ?_⟩

  obtain ⟨e, i, fs, rfl, hi, ex, q⟩ := h
  refine is_step ES 0 (by omega) hi rfl ex (is_step ES 1 (by omega) hi rfl ex (is_step ES 2 (by omega) hi rfl ex ⟨sz_3, fun p hp => ?_⟩))
  have st0 : StT H i (upd H p (.lst [V.bl (decide (0 = i)), V.bl (decide (1 = i)), V.bl (decide (2 = i))])) p 3 := ⟨same_new (fun _ _ z => z) hp _, Ks.new1 hp _, upd_same⟩
  refine row3 (u := none) (v := none) 3 ES (by omega) hi ex st0 fun H1 L1 s1 => ?_
  refine row3 (u := none) (v := none) 6 ES (by omega) hi ex s1 fun H1 L1 s1 => ?_
  refine row3 (u := none) (v := none) 9 ES (by omega) hi ex s1 fun H1 L1 s1 => ?_
  refine row3 (u := none) (v := none) 12 ES (by omega) hi ex s1 fun H1 L1 s1 => ?_
  refine row3 (u := none) (v := none) 15 ES (by omega) hi ex s1 fun H1 L1 s1 => ?_
  refine row3 (u := none) (v := none) 18 ES (by omega) hi ex s1 fun H1 L1 s1 => ?_
  refine row3 (u := none) (v := none) 21 ES (by omega) hi ex s1 fun H1 L1 s1 => ?_
  refine row2 (u := none) (v := none) 24 ES (by omega) hi ex s1 fun H1 L1 s1 => ?_
  obtain ⟨k1, k2, k3⟩ := s1
  obtain ⟨u1, u2, u3, _⟩ := ES.up i hi
  have ex1 := ex.same k1
  refine ⟨_, rfl, e, _, fs, _, _, _, rfl, ex1, u3, .own _, u1, true, rfl, ?_⟩
  rw [if_pos rfl]
  refine ⟨_, rfl, e, _, fs, _, _, _, rfl, ex1, u3, .ty _, u2, ?_⟩
  refine ⟨_, rfl, true, rfl, ifT ?_⟩
  refine ⟨_, rfl, _, 26, rfl, .inl ⟨_, SqL.of k3, by rw [List.length_map, List.length_range]⟩, _, rfl, by decide, by decide, fun D hD => ?_⟩
  refine lc_range (lo := 0) (n := 26) (fun k H' => Same H H' ∧ Ks H H' ∧ H' L1 = some (.lst ((List.range 26).map fun j => V.bl (decide (j = i)))) ∧ H' D = some (.lst (if i < k then [V.int (i : Int)] else []))) ?_ ?_ ?_
  · exact ⟨same_new k1 hD _, k2.trans (Ks.new1 hD _), by rw [upd_ne (ne_of_none k3 hD)]; exact k3, by rw [upd_same, if_neg (Nat.not_lt_zero i)]⟩
  · rintro k H2 hk ⟨m1, m2, m3, m4⟩
    refine ⟨rfl, ?_⟩
    have g : ((List.range 26).map fun j => V.bl (decide (j = i)))[k]? = some (.bl (decide (k = i))) := by
      rw [List.getElem?_map, List.getElem?_range hk]; rfl
    refine ⟨_, rfl, _, rfl, L1, _, _, _, rfl, rfl, SqL.of m3, at_of (z := (0 : Int) + (k : Int)) (j := k) (by omega) g, _, rfl, ?_⟩
    by_cases e1 : k = i
    · rw [decide_eq_true e1]
      refine ifT ?_
      subst e1
      rw [if_neg (Nat.lt_irrefl k)] at m4
      have hDH : H D = none := k2.2 D hD
      refine ⟨_, rfl, [], m4, szL (by show 0 ≤ _; omega), same_upd m1 hDH _, m2.upd hDH _, by rw [upd_ne (ne_of_none k3 hD)]; exact m3, ?_⟩
      rw [upd_same, if_pos (Nat.lt_succ_self k), Int.zero_add]
      rfl
    · rw [decide_eq_false e1]
      refine ifF ?_
      refine ⟨m1, m2, m3, ?_⟩
      rw [m4]
      by_cases e2 : i < k
      · rw [if_pos e2, if_pos (Nat.lt_succ_of_lt e2)]
      · rw [if_neg e2, if_neg (by omega)]
  · rintro H2 ⟨m1, m2, m3, m4⟩
    rw [if_pos hi] at m4
    exact q H2 D m1 m2 m4

end
end Vf

set_option maxRecDepth 100000
set_option maxHeartbeats 4000000
namespace Vf
open PySem PySem.Spec PyProof.Rows L2 SX
section
variable {P : Program} {w : World} {K : PySem.W.Frag} {mg : Str → Option Value} {base : Heap}
theorem strOk_S {l : List Nat} (h : ∀ c ∈ l, c < 1000) : PyData.strOk (S l) = true := by
  unfold PyData.strOk
  show l.toArray.all _ = true
  rw [List.all_toArray]
  exact List.all_eq_true.mpr fun c hc => decide_eq_true (by have := h c hc; omega)
theorem spl_mem : ∀ (l acc : List Nat) (x : List Nat), x ∈ TL.spl [10] 0 acc l → ∀ c ∈ x, c ∈ acc ∨ c ∈ l
  | [], acc, x, h, c, hc => by
    have h' : x ∈ [acc] := h
    rw [List.mem_singleton.mp h'] at hc
    exact .inl hc
  | d :: l, acc, x, h, c, hc => by
    by_cases e : d = 10
    · rw [TL.spl_hit (by rw [pre10]; exact decide_eq_true e)] at h
      rcases List.mem_cons.mp h with h | h
      · rw [h] at hc; exact .inl hc
      · rcases spl_mem l [] x h c hc with z | z
        · cases z
        · exact .inr (List.mem_cons_of_mem _ z)
    · rw [TL.spl_miss (by rw [pre10]; exact decide_eq_false e)] at h
      rcases spl_mem l (acc ++ [d]) x h c hc with z | z
      · rcases List.mem_append.mp z with z | z
        · exact .inl z
        · rw [List.mem_singleton.mp z]; exact .inr (List.mem_cons_self ..)
      · exact .inr (List.mem_cons_of_mem _ z)
theorem flats_lay : ∀ {ds : List PyData}, (∀ d ∈ ds, d.canLay0 = true ∧ d.depth ≤ 1) → PyData.canLayAll0 ds = true ∧ PyData.depthAll ds ≤ 1
  | [], _ => ⟨rfl, Nat.zero_le _⟩
  | d :: ds, h => by
    obtain ⟨h1, h2⟩ := flats_lay fun x hx => h x (List.mem_cons_of_mem _ hx)
    obtain ⟨h3, h4⟩ := h d (List.mem_cons_self ..)
    refine ⟨?_, ?_⟩
    · show (d.canLay0 && PyData.canLayAll0 ds) = true
      rw [h3, h1]; rfl
    · show max d.depth (PyData.depthAll ds) ≤ 1
      omega
theorem tup_shaped {ds : List PyData} (h : ∀ d ∈ ds, d.canLay0 = true ∧ d.depth ≤ 1) : SeqAt.shaped (.tuple ds) = true ∧ PyData.eqv (.tuple ds) (.tuple ds) = true := by
  obtain ⟨h1, h2⟩ := flats_lay h
  refine ⟨?_, SeqAt.eqv_refl _ h1⟩
  show (PyData.canLayAll0 ds && decide (PyData.depthAll ds + 1 ≤ 64)) = true
  rw [h1, decide_eq_true (by omega)]
  rfl
theorem strs_dp {K : PySem.W.Frag} {H : Hp} : ∀ ls : List (List Nat), DpAll K H (ls.map fun x => V.str (S x)) (ls.map fun x => PyData.str (S x))
  | [] => .nil
  | x :: ls => .cons (.str _) (strs_dp ls)
theorem nats_dp {K : PySem.W.Frag} {H : Hp} : ∀ ls : List Nat, DpAll K H (ls.map fun n => V.int ((n : Nat) : Int)) (ls.map fun n => PyData.int ((n : Nat) : Int))
  | [] => .nil
  | x :: ls => .cons (.int _) (nats_dp ls)
theorem lns_lay {t : List Nat} (h : ∀ c ∈ t, c < 1000) : ∀ d ∈ (lns t).map (fun x => PyData.str (S x)), d.canLay0 = true ∧ d.depth ≤ 1 := fun d hd => by
  obtain ⟨x, hx, rfl⟩ := List.mem_map.mp hd
  exact ⟨strOk_S fun c hc => by
    rcases spl_mem t [] x hx c hc with z | z
    · cases z
    · exact h c z, Nat.zero_le _⟩
theorem starts_lay (t : List Nat) : ∀ d ∈ PyData.int 0 :: (nlAt 0 t).map (fun n => PyData.int ((n : Nat) : Int)), d.canLay0 = true ∧ d.depth ≤ 1 := fun d hd => by
  rcases List.mem_cons.mp hd with rfl | hd
  · exact ⟨rfl, Nat.zero_le _⟩
  · obtain ⟨x, hx, rfl⟩ := List.mem_map.mp hd
    exact ⟨rfl, Nat.zero_le _⟩
theorem lns_sum (t : List Nat) : ((lns t).map List.length).sum + (lns t).length ≤ t.length + 1 := by
  have h : ∀ (l acc : List Nat), ((TL.spl [10] 0 acc l).map List.length).sum + (TL.spl [10] 0 acc l).length ≤ acc.length + l.length + 1 := by
    intro l
    induction l with
    | nil => intro acc; show ([acc].map List.length).sum + 1 ≤ _; simp
    | cons d l ih =>
      intro acc
      by_cases e : d = 10
      · rw [TL.spl_hit (by rw [pre10]; exact decide_eq_true e)]
        have := ih []
        simp only [List.map_cons, List.sum_cons, List.length_cons]
        show acc.length + ((TL.spl [10] 0 [] l).map List.length).sum + ((TL.spl [10] 0 [] l).length + 1) ≤ _
        simp only [List.length_nil] at this
        omega
      · rw [TL.spl_miss (by rw [pre10]; exact decide_eq_false e)]
        have := ih (acc ++ [d])
        rw [List.length_append] at this
        simp only [List.length_cons, List.length_nil] at this ⊢
        omega
  have := h t []
  simp only [List.length_nil] at this
  unfold lns
  omega
theorem take_snoc {l : List Nat} {i c : Nat} (h : l[i]? = some c) : l.take (i + 1) = l.take i ++ [c] := by
  rw [List.take_add_one, h]; rfl
theorem lns_take {l : List Nat} {i c : Nat} (h : l[i]? = some c) : ∃ (f : List (List Nat)) (z : List Nat), lns (l.take i) = f ++ [z] ∧ lns (l.take (i + 1)) = if c = 10 then f ++ [z, []] else f ++ [z ++ [c]] := by
  rw [take_snoc h]; exact lns_snoc c _
theorem starts_take {l : List Nat} {i c : Nat} (h : l[i]? = some c) : starts (l.take (i + 1)) = starts (l.take i) ++ (if c = 10 then [V.int ((i : Int) + 1)] else []) := by
  have hi : i < l.length := (List.getElem?_eq_some_iff.mp h).1
  unfold starts
  rw [take_snoc h, nlAt_snoc, List.length_take, Nat.min_eq_left (Nat.le_of_lt hi), Nat.zero_add]
  by_cases e : c = 10
  · rw [if_pos e, if_pos e]; simp
  · rw [if_neg e, if_neg e]; simp
theorem ixN_last (n : Nat) : ixN (n + 1) (-1) = some n := by
  unfold ixN
  rw [if_neg (by decide), if_pos (by omega)]
  exact congrArg some (by omega)
theorem last_at {f : List V} {z : V} : atI (f ++ [z]) (-1) = some z := by
  unfold atI
  rw [List.length_append, show f.length + [z].length = f.length + 1 from rfl, ixN_last]
  simp
theorem starts_len (t : List Nat) : (starts t).length ≤ t.length + 1 := by
  unfold starts
  rw [List.length_cons, List.length_map]
  have := nlAt_len t 0
  omega
theorem ok_areLinesRight {f : Addr} {fd : FuncData} (F : C8.Def K mg "_law_are_lines_right" s_areLinesRight f fd) (b : Binds K fd ["_law_pen_here"] []) (T : Tx K w mg) (C_lawText : C8.Cal P w K mg base 3 "_law_text" sp_lawTextB []) (C_textOf : C8.Cal P w K mg base 1 "text_of" (sp_textOf K) []) (C_lineStarts : C8.Cal P w K mg base 1 "line_starts" sp_lineStarts []) (C_linesOf : C8.Cal P w K mg base 1 "lines_of" sp_linesOf []) : C8.Cal P w K mg base 4 "_law_are_lines_right" sp_areLinesRight [] := by
  refine C8.cal0 F b .nil sc_areLinesRight (fun vs H Q E h => ?_) (fun cdv A outer s H vs Q E hr h => ?_)
  · obtain ⟨p, c, m, rfl, _⟩ := h; rfl
  have hu := hu_of hr
  refine ⟨_, (pss_cons (ps_par3 (i := 1) (j := 2) (l := 3) (by rfl) sc_areLinesRight.nd rfl rfl rfl (by decide) (by decide) (by decide) rfl rfl rfl (pa_cons (C8.pe_c C_lawText hr (by decide) rfl (pa_cons (pv 0) (pa_cons pe_str (pa_cons pe_int pa_nil)))) (pa_cons (pe_lst (pa_cons pe_str pa_nil)) (pa_cons (pe_lst (pa_cons pe_int pa_nil)) pa_nil))) (by rfl))
      (pss_cons (ps_for PassesOwn.never rfl (pi_range1 (by rfl) T.z_range (pa_cons (pe_callB call_len (by rfl) T.z_len PySem.boot_len (pa_cons (pv 1) pa_nil)) pa_nil)) (pg_name (i := 4) sc_areLinesRight.nd rfl (Or.inl rfl))
      (pss_one (ps_if (pt_cmpR op_eq (pe_ix ix_str (pv 1) (pv 4) (fun _ _ => rfl)) pe_str (nomark _))
      (pss_cons (ps_expr (pe_bm PySem.F.plainAttrs_list PySem.F.slot_list_append PySem.F.type_list_append mt_append (pv 2) (pa_cons pe_str pa_nil)))
      (pss_one (ps_expr (pe_bm PySem.F.plainAttrs_list PySem.F.slot_list_append PySem.F.type_list_append mt_append (pv 3) (pa_cons (pe_op op_add (pv 4) pe_int) pa_nil)))))
      (pss_one (ps_asg (pe_op op_add_str (pe_ix ix_list (pv 2) (pe_un un_neg pe_int) (fun _ _ => rfl)) (pe_ix ix_str (pv 1) (pv 4) (fun _ _ => rfl))) (pg_sub (pv 2) (pe_un un_neg pe_int) set_list))))))
      (C8.pss_cut (ps_if (PW.pt (pw_or (pt_cmpR (op_neD hr.units) (C8.pe_c C_linesOf hr (by decide) rfl (pa_cons (pv 1) pa_nil)) (pe_callTy call_tuple_of (by rfl) T.z_tuple (by decide +kernel) (pa_cons (pv 2) pa_nil)) (nomark _)) (pw_or (pt_cmpR (op_neD hr.units) (C8.pe_c C_lineStarts hr (by decide) rfl (pa_cons (pv 1) pa_nil)) (pe_callTy call_tuple_of (by rfl) T.z_tuple (by decide +kernel) (pa_cons (pv 3) pa_nil)) (nomark _)) (pw_or1 (pt_cmpR op_ne (C8.pe_c C_textOf hr (by decide) rfl (pa_cons (pe_lst pa_nil) pa_nil)) pe_str (nomark _))))))
      (pss_one (ps_ret pe_bl))
      pss_nil)
      (pss_one (ps_ret (pe_and (pe_cmpR op_eq (C8.pe_c C_textOf hr (by decide) rfl (pa_cons (pv 2) pa_nil)) (pv 1) (nomark _)) (pe_and (pe_cmpR op_eq (C8.pe_c C_textOf hr (by decide) rfl (pa_cons (C8.pe_c C_linesOf hr (by decide) rfl (pa_cons (pv 1) pa_nil)) pa_nil)) (pv 1) (nomark _)) (pe_one (pe_cmpR op_eq (C8.pe_c C_textOf hr (by decide) rfl (pa_cons (pe_tup (pa_cons (pv 1) pa_nil)) pa_nil)) (pv 1) (nomark _)))))))))), ?_⟩

  obtain ⟨p, c, m, rfl, hp, hm, q⟩ := h
  refine ⟨_, rfl, p, c, m, 30, [97, 98], rfl, hp, by omega, by omega, by decide, by decide, fun H1 t k1 k2 ht1 ht2 => ?_⟩
  refine ⟨sz_1, fun L hL => ⟨sz_1, fun T2 hT => ⟨_, _, _, rfl, ?_⟩⟩⟩
  have nT : T2 ≠ L := fun z => by rw [z, upd_same] at hT; cases hT
  have hT1 : H1 T2 = none := by rw [upd_ne nT] at hT; exact hT
  refine ⟨_, rfl, _, t.length, rfl, ⟨by rw [S_len]; exact szB (by omega), by rw [S_len]⟩, _, rfl, by omega, by omega, ?_⟩
  rw [show ((t.length : Int)).toNat = t.length by omega]
  refine for_it walk_range (fun i σ' H' => ∃ v4, σ' = [some (.ref p), some (.str (S t)), some (.ref L), some (.ref T2), v4] ∧ Ks H1 H' ∧ PenAt H' p c (m + 31) ∧
    H' L = some (.lst ((lns (t.take i)).map fun x => V.str (S x))) ∧ H' T2 = some (.lst (starts (t.take i)))) ?_ (fun _ _ _ _ _ => trivial) (fun i x σ' H2 H3 hi e y => ?_) (fun σ' H2 e => ?_)
  · exact ⟨_, rfl, (Ks.new1 hL _).trans (Ks.new1 hT _), (k2.new hL).new hT, by rw [upd_ne nT.symm]; exact upd_same, upd_same⟩
  · obtain ⟨rfl, rfl⟩ := y
    obtain ⟨v4, rfl, e1, e2, e3, e4⟩ := e
    have hg : t[i]? = some t[i] := List.getElem?_eq_getElem hi
    obtain ⟨f, z, f1, f2⟩ := lns_take hg
    have s1 := starts_take hg
    refine ⟨_, rfl, _, rfl, S t, _, t[i], rfl, rfl, by rw [S_len]; exact szB (by omega), (by rw [Int.zero_add]; exact atI_nat hg), rfl, _, rfl, ?_⟩
    have hl31 : (lns (t.take i)).length ≤ 31 := Nat.le_trans (lns_len _) (by rw [List.length_take]; omega)
    have hs31 : (starts (t.take i)).length ≤ 31 := Nat.le_trans (starts_len _) (by rw [List.length_take]; omega)
    have pL := (k2.ne hL)
    have pT := (k2.ne hT1)
    by_cases ec : t[i] = 10
    · have en : decide ((V.str ⟨#[t[i]]⟩) = V.str (Str.ofString "\n")) = true := by rw [ec]; exact decide_eq_true rfl
      rw [en]
      refine ifT ?_
      have e4' : (upd H3 L (.lst (((lns (t.take i)).map fun x => V.str (S x)) ++ [V.str (S [])]))) T2 = some (.lst (starts (t.take i))) := by rw [upd_ne nT]; exact e4
      refine ⟨_, rfl, .inl ⟨rfl, _, SqL.of e3⟩, L, _, _, rfl, rfl, e3, szL (Nat.le_trans (Nat.le_of_eq (List.length_map _)) (Nat.le_trans hl31 (by decide))), ?_⟩
      refine ⟨_, rfl, .inl ⟨rfl, _, SqL.of e4'⟩, _, rfl, _, _, rfl, rfl, T2, _, _, rfl, rfl, e4', szL (by omega), ?_⟩
      refine ⟨_, rfl, (e1.upd hL _).upd hT1 _, (e2.upd pL.1 pL.2).upd pT.1 pT.2, ?_, ?_⟩
      · rw [upd_ne nT.symm, upd_same, f2, if_pos ec, f1]
        simp
        rfl
      · rw [upd_same, s1, if_pos ec, Int.zero_add]
    · have en : decide ((V.str ⟨#[t[i]]⟩) = V.str (Str.ofString "\n")) = false := decide_eq_false fun z => ec (by have z2 : (⟨#[t[i]]⟩ : Str) = S [10] := V.str.inj z; simpa using congrArg (fun t : Str => t.cps.toList) z2)
      rw [en]
      refine ifF ?_
      have e3' : H3 L = some (.lst ((f.map fun x => V.str (S x)) ++ [V.str (S z)])) := by rw [e3, f1, List.map_append]; rfl
      have hz : z.length ≤ 1000 := by
        have := lns_sum (t.take i)
        rw [f1] at this
        simp only [List.map_append, List.map_cons, List.map_nil, List.sum_append, List.sum_cons, List.sum_nil, List.length_append, List.length_take] at this
        omega
      refine ⟨_, rfl, _, rfl, L, _, _, _, rfl, rfl, SqL.of e3', last_at, _, rfl, _, rfl, S t, _, t[i], rfl, rfl, by rw [S_len]; exact szB (by omega), by rw [Int.zero_add]; exact atI_nat hg, _, _, rfl, rfl, by rw [S_len]; exact szB (by show _ + 1 ≤ _; omega), ?_⟩
      refine ⟨_, rfl, _, rfl, L, _, _, f.length, rfl, rfl, e3', by rw [List.length_append, List.length_map]; exact ixN_last _, ?_⟩
      refine ⟨_, rfl, e1.upd hL _, e2.upd pL.1 pL.2, ?_, by rw [upd_ne nT, e4, s1, if_neg ec, List.append_nil]⟩
      rw [upd_same, f2, if_neg ec, show S z ++ (⟨#[t[i]]⟩ : Str) = S (z ++ [t[i]]) from S_cat z [t[i]]]
      simp
  · obtain ⟨v4, rfl, e1, e2, e3, e4⟩ := e
    rw [List.take_length] at e3 e4
    obtain ⟨y1, y2⟩ := tup_shaped (lns_lay ht2)
    obtain ⟨y3, y4⟩ := tup_shaped (starts_lay t)
    have le2 : ((lns t).map List.length).sum + (lns t).length ≤ 1000000 := Nat.le_trans (lns_sum t) (by omega)
    have sp : ∀ {H : Hp}, DpAll K H (starts t) (PyData.int 0 :: (nlAt 0 t).map fun n => PyData.int ((n : Nat) : Int)) := fun {_} => .cons (.int 0) (nats_dp (nlAt 0 t))
    refine ⟨fun σ' H' => σ' = [some (.ref p), some (.str (S t)), some (.ref L), some (.ref T2), v4] ∧ Ks H2 H' ∧ PenAt H' p c (m + 31), ?_, ?_⟩
    · refine ⟨_, rfl, t, rfl, by omega, fun H3 p1 g1 g2 g3 => ?_⟩
      refine ⟨_, rfl, L, _, rfl, .inl ⟨SqL.of (g1 _ _ e3), fun l1 hl1 => ?_⟩⟩
      refine ⟨_, _, .tup (SqT.of (by rw [upd_ne (ne_of_none g3 hl1)]; exact g3)) (strs_dp (lns t)), .tup (SqT.of upd_same) (strs_dp (lns t)), y1, y1, _, rfl, ?_⟩
      rw [y2]
      refine ifF ?_
      have f1 : Same H2 (upd H3 l1 (.tup ((lns t).map fun x => V.str (S x)))) := same_new g1 hl1 _
      refine ⟨_, rfl, t, rfl, by omega, fun H4 p2 g4 g5 g6 => ?_⟩
      have f2 : Same H2 H4 := Same.trans f1 g4
      refine ⟨_, rfl, T2, _, rfl, .inl ⟨SqL.of (f2 _ _ e4), fun l2 hl2 => ?_⟩⟩
      refine ⟨_, _, .tup (SqT.of (by rw [upd_ne (ne_of_none g6 hl2)]; exact g6)) sp, .tup (SqT.of upd_same) sp, y3, y3, _, rfl, ?_⟩
      rw [y4]
      refine ifF ?_
      have f3 : Same H2 (upd H4 l2 (.tup (starts t))) := same_new f2 hl2 _
      refine ⟨szB (Nat.zero_le _), fun p3 hp3 => ⟨p3, [], rfl, .inl (SqL.of upd_same), by decide, rfl, _, rfl, ?_⟩⟩
      have e0 : (!decide (V.str (S (TL.joinL [10] [])) = V.str (Str.ofString ""))) = false := congrArg (!·) (decide_eq_true (show V.str (S (TL.joinL [10] [])) = V.str (Str.ofString "") from rfl))
      rw [e0]
      refine ifF ?_
      have f4 : Same H2 (upd (upd H4 l2 (.tup (starts t))) p3 (.lst [])) := same_new f3 hp3 _
      exact ⟨rfl, Ks.of f4, e2.same f4⟩
    · rintro σ' H3 ⟨rfl, g1, g2⟩
      refine ⟨_, rfl, L, lns t, rfl, .inl (SqL.of (g1.lst e3)), le2, _, rfl, rfl, _, rfl, ?_⟩
      rw [join_lns, decide_eq_true rfl]
      refine ifT ?_
      refine ⟨_, rfl, t, rfl, by omega, fun H4 p1 h1 h2 h3 => ⟨p1, lns t, rfl, .inr (SqT.of h3), le2, _, rfl, rfl, _, rfl, ?_⟩⟩
      rw [join_lns, decide_eq_true rfl]
      refine ifT ?_
      refine ⟨_, rfl, sz_1, fun p2 hp2 => ⟨p2, [t], rfl, .inr (SqT.of upd_same), by simp; omega, _, rfl, rfl, ?_⟩⟩
      show Q (.bl (decide (V.str (S t) = V.str (S t)))) _
      rw [decide_eq_true rfl]
      exact q _ (((k1.trans e1).trans g1).trans (h2.trans (Ks.new1 hp2 _))) (((g2.same h1).new hp2).mono (by omega))

end
end Vf

set_option maxRecDepth 100000
set_option maxHeartbeats 4000000
namespace Vf
open PySem PySem.Spec PyProof.Rows L2 SX
section
variable {P : Program} {w : World} {K : PySem.W.Frag} {mg : Str → Option Value} {base : Heap}
theorem ok_pen {f : Addr} {fd : FuncData} (F : C8.Def K mg "_law_pen" s_pen f fd) (b : Binds K fd ["_law_script"] []) (T : Tx K w mg)  : C8.Cal P w K mg base 1 "_law_pen" (sp_pen K) [] := by
  refine C8.cal0 F b .nil sc_pen (fun vs H Q E h => ?_) (fun cdv A outer s H vs Q E hr h => ?_)
  · obtain ⟨a, ns, rfl, _⟩ := h; rfl
  have hu := hu_of hr
  refine ⟨_, (pss_cons (ps_set (i := 1) sc_pen.nd rfl (Or.inl rfl) pe_int)
      (pss_cons (ps_for PassesOwn.never rfl (pi_list (pv 0)) (pg_name (i := 2) sc_pen.nd rfl (Or.inl rfl))
      (pss_one (ps_set (i := 1) sc_pen.nd rfl (Or.inl rfl) (pe_op op_mod (pe_callTy call_int1 (by rfl) T.z_int (by decide +kernel) (pa_cons (pe_op op_add (pe_op op_mul (pv 1) pe_int) (pv 2)) pa_nil)) pe_int))))
      (pss_one (ps_ret (pe_disp (pps_cons pe_str (pe_callTy call_list_of (by rfl) T.z_list (by decide +kernel) (pa_cons (pv 0) pa_nil)) (pps_cons pe_str pe_int (pps_cons pe_str pe_int (pps_cons pe_str pe_int (pps_cons pe_str (pv 1) pps_nil))))) (by rfl) (by rfl) (fun z => by cases z) (by decide)))))), ?_⟩

  obtain ⟨a, ns, rfl, hS, hl, q⟩ := h
  refine ⟨_, rfl, a, rfl, ⟨_, hS⟩, for_list (K := K) (a := a) (xs := ns.map V.int) (fun i σ H2 => ∃ (f : Int) (v : Option V), σ = [some (.ref a), some (.int f), v] ∧ H2 = H ∧ 0 ≤ f ∧ f < 1000000007)
    ⟨0, none, rfl, rfl, by decide, by decide⟩ (fun i σ H2 _ ⟨_, _, _, e, _⟩ => by rw [e]; exact hS) ?_ ?_⟩
  · rintro i y σ H2 hi ⟨fo, v, rfl, rfl, h0, h1⟩
    obtain ⟨z, rfl⟩ : ∃ z, y = V.int z := by
      rw [List.getElem?_map] at hi
      cases e : ns[i]? with
      | none => rw [e] at hi; cases hi
      | some z => rw [e] at hi; exact ⟨z, (Option.some.inj hi).symm⟩
    refine ⟨_, rfl, _, _, rfl, rfl, .inl ⟨by omega, by omega⟩, _, rfl, _, _, rfl, rfl, .inl ⟨_, rfl, _, _, rfl, rfl, (by decide : (0 : Int) < 1000000007), ?_⟩⟩
    exact ⟨_, _, rfl, rfl, Int.emod_nonneg _ (by decide), Int.emod_lt_of_pos _ (by decide)⟩
  · rintro σ H2 ⟨fo, v, rfl, rfl, h0, h1⟩
    intro p np
    refine ⟨_, rfl, a, _, rfl, .inl ((Ks.new1 np _).seq hS), fun c nc => ?_⟩
    have hcp : c ≠ p := fun e => by rw [e, upd_same] at nc; cases nc
    refine ⟨_, rfl, by rw [upd_ne hcp.symm, upd_same], [(.inr "cells", .ref c), (.inr "at", .int 0), (.inr "digits", .int 0), (.inr "count", .int 0), (.inr "fold", .int fo)], rfl, (by show 5 ≤ 15; decide), ?_⟩
    have nc0 : H2 c = none := by rw [upd_ne hcp] at nc; exact nc
    refine q _ p c (((Ks.new1 np _).upd nc0 _).upd np _) ⟨ns, 0, 0, 0, fo, Eq.trans upd_same rfl, ?_, hl, by decide, by decide, by decide, by decide, h0, by omega⟩
    rw [upd_ne hcp, upd_same]

end
end Vf

set_option maxRecDepth 100000
set_option maxHeartbeats 4000000
namespace Vf
open PySem PySem.Spec PyProof.Rows L2 SX
section
variable {P : Program} {w : World} {K : PySem.W.Frag} {mg : Str → Option Value} {base : Heap}
theorem ok_draw {f : Addr} {fd : FuncData} (F : C8.Def K mg "_law_draw" s_draw f fd) (b : Binds K fd ["_law_pen_here", "_law_many"] []) (T : Tx K w mg)  : C8.Cal P w K mg base 1 "_law_draw" sp_draw [] := by
  refine C8.cal0 F b .nil sc_draw (fun vs H Q E h => ?_) (fun cdv A outer s H vs Q E hr h => ?_)
  · obtain ⟨p, c, m, n, rfl, _⟩ := h; rfl
  have hu := hu_of hr
  refine ⟨_, (pss_cons (ps_dput hu (pv 0) pe_str (pe_op op_add (pe_dget hu (pv 0) pe_str (fun _ _ => rfl)) pe_int) rfl)
      (C8.pss_cut (ps_if (PW.pt (pw_and (pt_cmpR op_eq (pe_dget hu (pv 0) pe_str (fun _ _ => rfl)) pe_int (nomark _)) (pw_and1 (pt_cmpR op_lt (pe_dget hu (pv 0) pe_str (fun _ _ => rfl)) (pe_callB call_len (by rfl) T.z_len PySem.boot_len (pa_cons (pe_dget hu (pv 0) pe_str (fun _ _ => rfl)) pa_nil)) (nomark _)))))
      (pss_cons (ps_set (i := 2) sc_draw.nd rfl (Or.inl rfl) (pe_ix ix_list (pe_dget hu (pv 0) pe_str (fun _ _ => rfl)) (pe_dget hu (pv 0) pe_str (fun _ _ => rfl)) (fun _ _ => rfl)))
      (pss_cons (ps_dput hu (pv 0) pe_str (pe_op op_add (pe_dget hu (pv 0) pe_str (fun _ _ => rfl)) pe_int) rfl)
      (pss_one (ps_if (pt_cmpR op_ge (pv 2) (pe_op op_pow pe_int pe_int) (nomark _))
      (pss_one (ps_dput hu (pv 0) pe_str (pe_op op_sub (pv 2) (pe_op op_pow pe_int pe_int)) rfl))
      (pss_one (ps_dput hu (pv 0) pe_str (pe_op op_mod (pe_callTy call_int1 (by rfl) T.z_int (by decide +kernel) (pa_cons (pe_op op_add (pe_op op_mul (pe_dget hu (pv 0) pe_str (fun _ _ => rfl)) pe_int) (pv 2)) pa_nil)) pe_int) rfl))))))
      pss_nil)
      (pss_cons (ps_if (pt_cmpR op_gt (pe_dget hu (pv 0) pe_str (fun _ _ => rfl)) pe_int (nomark _))
      (pss_cons (ps_set (i := 3) sc_draw.nd rfl (Or.inl rfl) (pe_op op_mod (pe_callTy call_int1 (by rfl) T.z_int (by decide +kernel) (pa_cons (pe_dget hu (pv 0) pe_str (fun _ _ => rfl)) pa_nil)) (pv 1)))
      (pss_cons (ps_dput hu (pv 0) pe_str (pe_op op_fdiv (pe_dget hu (pv 0) pe_str (fun _ _ => rfl)) (pv 1)) rfl)
      (pss_one (ps_ret (pv 3)))))
      pss_nil)
      (pss_cons (ps_set (i := 4) sc_draw.nd rfl (Or.inl rfl) (pe_op op_add (pe_op op_add (pe_dget hu (pv 0) pe_str (fun _ _ => rfl)) (pe_op op_mul (pe_dget hu (pv 0) pe_str (fun _ _ => rfl)) pe_int)) pe_int))
      (pss_one (ps_ret (pe_op op_mod (pe_op op_fdiv (pe_callTy call_int1 (by rfl) T.z_int (by decide +kernel) (pa_cons (pe_op op_mod (pe_op op_pow (pv 4) pe_int) pe_int) pa_nil)) pe_int) (pv 1)))))))), ?_⟩

  obtain ⟨p, c, m, n, rfl, ⟨ns, a, d, t, fo, hp, hc, hl, ha, hd, ht, htm, hf0, hf1⟩, hm, hn1, hn2, q⟩ := h
  have hpc : c ≠ p := ne_of hc hp (by intro z; cases z)
  have nx : ∀ o, (upd H p o) c = some (.lst (ns.map V.int)) := fun o => by rw [upd_ne hpc]; exact hc
  have lns : (ns.map V.int).length = ns.length := List.length_map _
  -- count
  refine ⟨_, rfl, p, _, rfl, pg_count hp, _, _, rfl, rfl, _, rfl, p, _, rfl, pp_count hp, ?_⟩
  have h1 : (upd H p (.dK (pk c a d (t + 1) fo))) p = some (.dK (pk c a d (t + 1) fo)) := upd_same
  -- the cell
  refine ⟨fun σ' H' => ∃ (v2 : Option V) (a' d' f' : Int), σ' = [some (.ref p), some (.int (n : Int)), v2, none, none] ∧ H' = upd H p (.dK (pk c a' d' (t + 1) f')) ∧ 0 ≤ a' ∧ 0 ≤ d' ∧ 0 ≤ f' ∧ f' < 2147483648, ?_, ?_⟩
  · refine ⟨_, rfl, p, _, rfl, pg_digits h1, rfl, _, rfl, ?_⟩
    refine ite2 (fun e0 => ?_) (fun _ => ?_)
    · refine ⟨_, rfl, p, _, rfl, pg_at h1, _, rfl, p, _, rfl, pg_cells h1, _, _, rfl, .inl ⟨_, SqL.of (nx _), rfl⟩, _, _, rfl, rfl, _, rfl, ?_⟩
      refine ite2 (fun e1 => ?_) (fun _ => ?_)
      · have e1' : a < (((ns.map V.int).length : Nat) : Int) := of_decide_eq_true e1
        rw [lns] at e1'
        have hk : a.toNat < ns.length := by omega
        have ek : a = ((a.toNat : Nat) : Int) := by omega
        have g : (ns.map V.int)[a.toNat]? = some (.int ns[a.toNat]) := by
          rw [List.getElem?_map, List.getElem?_eq_getElem hk]; rfl
        refine ⟨_, rfl, p, _, rfl, pg_cells h1, _, rfl, p, _, rfl, pg_at h1, c, _, a, _, rfl, rfl, SqL.of (nx _), at_of ek g, ?_⟩
        refine ⟨_, rfl, p, _, rfl, pg_at h1, _, _, rfl, rfl, _, rfl, p, _, rfl, pp_at h1, ?_⟩
        rw [upd_upd]
        have h2 : (upd H p (.dK (pk c (a + 1) d (t + 1) fo))) p = some (.dK (pk c (a + 1) d (t + 1) fo)) := upd_same
        refine ⟨_, rfl, _, _, rfl, rfl, ⟨by decide, by decide, by decide⟩, _, _, rfl, rfl, _, rfl, ?_⟩
        refine ite2 (fun e2 => ?_) (fun _ => ?_)
        · have e2' : (10 : Int) ^ (18 : Int).toNat ≤ ns[a.toNat] := of_decide_eq_true e2
          refine ⟨_, rfl, _, _, rfl, rfl, ⟨by decide, by decide, by decide⟩, _, _, rfl, rfl, _, rfl, p, _, rfl, pp_digits h2, ?_⟩
          rw [upd_upd]
          exact ⟨_, _, _, _, rfl, rfl, by omega, by omega, hf0, hf1⟩
        · refine ⟨_, rfl, p, _, rfl, pg_fold h2, _, _, rfl, rfl, .inl ⟨by omega, by omega⟩, _, rfl, _, _, rfl, rfl, .inl ⟨_, rfl, _, _, rfl, rfl, (by decide : (0 : Int) < 2147483587), _, rfl, p, _, rfl, pp_fold h2, ?_⟩⟩
          rw [upd_upd]
          exact ⟨_, _, _, _, rfl, rfl, by omega, hd, Int.emod_nonneg _ (by decide), Int.lt_trans (Int.emod_lt_of_pos _ (by decide)) (by decide)⟩
      · exact ⟨_, _, _, _, rfl, rfl, ha, hd, hf0, hf1⟩
    · exact ⟨_, _, _, _, rfl, rfl, ha, hd, hf0, hf1⟩
  · rintro σ' H' ⟨v2, a', d', f', rfl, rfl, ha', hd', hf', hf2⟩
    have h2 : (upd H p (.dK (pk c a' d' (t + 1) f'))) p = some (.dK (pk c a' d' (t + 1) f')) := upd_same
    have fin : ∀ (d2 : Int) (r : Nat), 0 ≤ d2 → r < n → Q (.int (r : Int)) (upd H p (.dK (pk c a' d2 (t + 1) f'))) := fun d2 r h0 hr' =>
      q _ r (Ks.dict hp) ⟨ns, _, _, _, _, upd_same, nx _, hl, ha', h0, by omega, by omega, hf', hf2⟩ hr'
    refine ⟨_, rfl, p, _, rfl, pg_digits h2, _, _, rfl, rfl, _, rfl, ?_⟩
    refine ite2 (fun e0 => ?_) (fun _ => ?_)
    · refine ⟨_, rfl, p, _, rfl, pg_digits h2, .inl ⟨_, rfl, _, rfl, _, _, rfl, rfl, (by omega : (0 : Int) < (n : Int)), ?_⟩⟩
      refine ⟨_, rfl, p, _, rfl, pg_digits h2, _, rfl, _, _, rfl, rfl, ⟨by omega, by omega⟩, _, rfl, p, _, rfl, pp_digits h2, ?_⟩
      rw [upd_upd]
      refine ⟨_, rfl, ?_⟩
      have e1 : d' % (n : Int) = (((d' % (n : Int)).toNat : Nat) : Int) := by
        have := Int.emod_nonneg d' (show (n : Int) ≠ 0 by omega)
        omega
      have e2 : (d' % (n : Int)).toNat < n := by
        have := Int.emod_lt_of_pos d' (show (0 : Int) < n by omega)
        have := Int.emod_nonneg d' (show (n : Int) ≠ 0 by omega)
        omega
      show Q (.int (d' % (n : Int))) _
      rw [e1]
      exact fin _ _ (Int.ediv_nonneg hd' (by omega)) e2
    · refine ⟨_, rfl, p, _, rfl, pg_fold h2, _, rfl, p, _, rfl, pg_count h2, _, _, rfl, rfl, .inr ⟨by decide, by decide⟩, _, _, rfl, rfl, _, _, rfl, rfl, ?_⟩
      refine ⟨_, rfl, _, _, rfl, rfl, ⟨by decide, by decide, ?_⟩, _, _, rfl, rfl, (by decide : (0 : Int) < 2305843009213693951), .inl ⟨_, rfl, _, _, rfl, rfl, ⟨by decide, by decide⟩, _, rfl, _, _, rfl, rfl, (by omega : (0 : Int) < (n : Int)), ?_⟩⟩
      · show (f' + (t + 1) * 7907 + 37).natAbs < 2 ^ 64
        have : (2 : Nat) ^ 64 = 18446744073709551616 := by decide
        omega
      generalize (f' + (t + 1) * 7907 + 37) ^ (17 : Int).toNat % 2305843009213693951 / 128 = z
      have e1 : z % (n : Int) = (((z % (n : Int)).toNat : Nat) : Int) := by
        have := Int.emod_nonneg z (show (n : Int) ≠ 0 by omega)
        omega
      have e2 : (z % (n : Int)).toNat < n := by
        have := Int.emod_lt_of_pos z (show (0 : Int) < n by omega)
        have := Int.emod_nonneg z (show (n : Int) ≠ 0 by omega)
        omega
      show Q (.int (z % (n : Int))) _
      rw [e1]
      exact fin _ _ hd' e2

end
end Vf

set_option maxRecDepth 100000
set_option maxHeartbeats 4000000
namespace Vf
open PySem PySem.Spec PyProof.Rows L2 SX
section
variable {P : Program} {w : World} {K : PySem.W.Frag} {mg : Str → Option Value} {base : Heap}
theorem ok_pick {f : Addr} {fd : FuncData} (F : C8.Def K mg "_law_pick" s_pick f fd) (b : Binds K fd ["_law_pen_here", "_law_some"] []) (T : Tx K w mg) (C_draw : C8.Cal P w K mg base 1 "_law_draw" sp_draw []) : C8.Cal P w K mg base 2 "_law_pick" sp_pick [] := by
  refine C8.cal0 F b .nil sc_pick (fun vs H Q E h => ?_) (fun cdv A outer s H vs Q E hr h => ?_)
  · obtain ⟨p, c, m, x, rfl, _⟩ := h; rfl
  have hu := hu_of hr
  refine ⟨_, (pss_one (ps_ret (pe_ix ix_seq (pv 1) (C8.pe_c C_draw hr (by decide) rfl (pa_cons (pv 0) (pa_cons (pe_callB call_len (by rfl) T.z_len PySem.boot_len (pa_cons (pv 1) pa_nil)) pa_nil))) (fun _ _ => rfl)))), ?_⟩

  obtain ⟨p, c, m, x, rfl, hp, hm, q⟩ := h
  rcases q with ⟨l, rfl, l1, l2, q⟩ | ⟨a, xs, rfl, ha, l1, l2, q⟩
  · refine ⟨_, rfl, _, rfl, _, rfl, _, l.length, rfl, ⟨by rw [S_len]; exact szB l2, by rw [S_len]⟩, ?_⟩
    refine ⟨p, c, m, l.length, rfl, hp, hm, l1, by omega, fun H' r k1 k2 hr' => ?_⟩
    refine .inr (.inr ⟨S l, _, l[r], rfl, rfl, by rw [S_len]; exact szB l2, atI_nat (List.getElem?_eq_getElem hr'), ?_⟩)
    exact q H' _ k1 k2 (List.getElem_mem _)
  · refine ⟨_, rfl, _, rfl, _, rfl, _, xs.length, rfl, .inl ⟨_, SqL.of ha, rfl⟩, ?_⟩
    refine ⟨p, c, m, xs.length, rfl, hp, hm, l1, by omega, fun H' r k1 k2 hr' => ?_⟩
    refine .inl ⟨a, xs, _, xs[r], rfl, rfl, SqL.of (k1.lst ha), atI_nat (List.getElem?_eq_getElem hr'), ?_⟩
    exact q H' _ k1 k2 (List.getElem_mem _)

end
end Vf

set_option maxRecDepth 100000
set_option maxHeartbeats 4000000
namespace Vf
open PySem PySem.Spec PyProof.Rows L2 SX
section
variable {P : Program} {w : World} {K : PySem.W.Frag} {mg : Str → Option Value} {base : Heap}
theorem ok_allSigns {f : Addr} {fd : FuncData} (F : C8.Def K mg "all_signs" s_allSigns f fd) (b : Binds K fd [] []) (T : Tx K w mg)  : C8.Cal P w K mg base 1 "all_signs" sp_allSigns [] := by
  refine C8.cal0 F b .nil sc_allSigns (fun vs H Q E h => ?_) (fun cdv A outer s H vs Q E hr h => ?_)
  · obtain ⟨rfl, _⟩ := h; rfl
  have hu := hu_of hr
  refine ⟨_, (pss_one (ps_ret (C8.pe_gc rfl T.g_SIGNS))), ?_⟩

  obtain ⟨rfl, q⟩ := h
  exact q

end
end Vf

set_option maxRecDepth 100000
set_option maxHeartbeats 4000000
namespace Vf
open PySem PySem.Spec PyProof.Rows L2 SX
section
variable {P : Program} {w : World} {K : PySem.W.Frag} {mg : Str → Option Value} {base : Heap}
theorem lsg : (Txt.upper "abcdefghijklmnopqrstuvwxyz" : Str) = "ABCDEFGHIJKLMNOPQRSTUVWXYZ" := by decide +kernel
theorem lsg2 : ("\n !\"#$&'()*+,-./0123456789:;<=>?@" ++ "ABCDEFGHIJKLMNOPQRSTUVWXYZ" ++ "[\\]^_`" ++ "abcdefghijklmnopqrstuvwxyz" ++ "{|}~" : Str) = S signsL := by decide +kernel
theorem ok_lawSigns {f : Addr} {fd : FuncData} (F : C8.Def K mg "_law_all_signs" s_lawSigns f fd) (b : Binds K fd [] []) (T : Tx K w mg)  : C8.Cal P w K mg base 1 "_law_all_signs" sp_lawSigns [] := by
  refine C8.cal0 F b .nil sc_lawSigns (fun vs H Q E h => ?_) (fun cdv A outer s H vs Q E hr h => ?_)
  · obtain ⟨rfl, _⟩ := h; rfl
  have hu := hu_of hr
  refine ⟨_, (pss_cons (ps_set (i := 0) sc_lawSigns.nd rfl (Or.inl rfl) pe_str)
      (pss_one (ps_ret (pe_op op_add_str (pe_op op_add_str (pe_op op_add_str (pe_op op_add_str pe_str (pe_bm0 PySem.F.plainAttrs_str PySem.F.slot_str_upper PySem.F.type_str_upper mt_upper (pv 0))) pe_str) (pv 0)) pe_str)))), ?_⟩

  obtain ⟨rfl, q⟩ := h
  refine ⟨_, rfl, rfl, _, rfl, rfl, by decide, ?_⟩
  rw [show Txt.upper (Str.ofString "abcdefghijklmnopqrstuvwxyz") = "ABCDEFGHIJKLMNOPQRSTUVWXYZ" from lsg]
  refine ⟨_, _, rfl, rfl, by decide, _, _, rfl, rfl, by decide, _, rfl, _, _, rfl, rfl, by decide, _, _, rfl, rfl, by decide, ?_⟩
  have q' := q
  rw [← lsg2] at q'
  exact q'

end
end Vf

set_option maxRecDepth 100000
set_option maxHeartbeats 4000000
namespace Vf
open PySem PySem.Spec PyProof.Rows L2 SX
section
variable {P : Program} {w : World} {K : PySem.W.Frag} {mg : Str → Option Value} {base : Heap}
theorem ok_isSign {f : Addr} {fd : FuncData} (F : C8.Def K mg "is_sign" s_isSign f fd) (b : Binds K fd ["value"] []) (T : Tx K w mg)  : C8.Cal P w K mg base 1 "is_sign" (sp_isSign K) [] := by
  refine C8.cal0 F b .nil sc_isSign (fun vs H Q E h => ?_) (fun cdv A outer s H vs Q E hr h => ?_)
  · obtain ⟨x, rfl, _⟩ := h; rfl
  have hu := hu_of hr
  refine ⟨_, (pss_one (ps_ret (pe_and (pe_callB call_isi (by rfl) T.z_isinstance (by decide +kernel) (pa_cons (pv 0) (pa_cons (pe_bltn (v := .ty "str") (by rfl) T.z_str (by decide +kernel) rfl) pa_nil))) (pe_and (pe_cmpR op_eq (pe_callB call_len (by rfl) T.z_len PySem.boot_len (pa_cons (pv 0) pa_nil)) pe_int (nomark _)) (pe_one (pe_cmpR op_in_sign (pv 0) (C8.pe_gc rfl T.g_SIGNS) rfl)))))), ?_⟩

  obtain ⟨x, rfl, h⟩ := h
  rcases h with ⟨l, rfl, hl, q⟩ | ⟨⟨t, ty, ek⟩, q⟩
  · refine ⟨_, rfl, _, _, _, _, true, rfl, .ty "str", .base (.str _), kit_ty (by decide +kernel), true, rfl, ?_⟩
    rw [if_pos rfl]
    refine ⟨_, rfl, _, l.length, rfl, ⟨by rw [S_len]; exact szB (by omega), by rw [S_len]⟩, rfl, _, rfl, ?_⟩
    by_cases e : l.length = 1
    · rw [if_pos (by rw [e]; decide)]
      match l, e with
      | [c], _ =>
        refine ⟨_, rfl, c, S signsL, rfl, rfl, ?_⟩
        simpa [isS] using q
    · rw [if_neg (fun z => e (by have z' := V.int.inj (of_decide_eq_true z); omega))]
      have e2 : (l.length == 1) = false := by simpa using e
      rw [e2, Bool.false_and] at q
      exact q
  · refine ⟨_, rfl, _, _, _, _, false, rfl, .ty "str", ty, ek, false, rfl, ?_⟩
    rw [if_neg Bool.false_ne_true]
    exact q

end
end Vf

set_option maxRecDepth 100000
set_option maxHeartbeats 4000000
namespace Vf
open PySem PySem.Spec PyProof.Rows L2 SX
section
variable {P : Program} {w : World} {K : PySem.W.Frag} {mg : Str → Option Value} {base : Heap}
theorem ok_isWord {f : Addr} {fd : FuncData} (F : C8.Def K mg "is_word" s_isWord f fd) (b : Binds K fd ["value"] []) (T : Tx K w mg) (C_isText : C8.Cal P w K mg base 1 "is_text" (sp_isText K) []) : C8.Cal P w K mg base 2 "is_word" (sp_isWord K) [] := by
  refine C8.cal0 F b .nil sc_isWord (fun vs H Q E h => ?_) (fun cdv A outer s H vs Q E hr h => ?_)
  · obtain ⟨x, rfl, _⟩ := h; rfl
  have hu := hu_of hr
  refine ⟨_, (pss_one (ps_ret (pe_and (C8.pe_c C_isText hr (by decide) rfl (pa_cons (pv 0) pa_nil)) (pe_one (pe_chain op_le op_le pe_int (pe_callB call_len (by rfl) T.z_len PySem.boot_len (pa_cons (pv 0) pa_nil)) (C8.pe_gc rfl T.g_LONGEST_WORD)))))), ?_⟩

  obtain ⟨x, rfl, h⟩ := h
  rcases h with ⟨l, rfl, hl, q⟩ | ⟨n, q⟩
  · refine ⟨_, rfl, _, rfl, .inl ⟨l, rfl, hl, fun H' k1 k2 => ⟨_, rfl, ?_⟩⟩⟩
    by_cases e : l.all isS = true
    · rw [if_pos e]
      have q' := q H' k1 k2
      rw [e, Bool.true_and] at q'
      refine ⟨_, rfl, _, l.length, rfl, ⟨by rw [S_len]; exact szB (by omega), by rw [S_len]⟩, _, _, rfl, rfl, _, rfl, ?_⟩
      by_cases e1 : 1 ≤ l.length
      · rw [if_pos (decide_eq_true (by omega : (1 : Int) ≤ (l.length : Int)))]
        refine ⟨_, _, rfl, rfl, ?_⟩
        rw [decide_eq_true e1, Bool.true_and] at q'
        have e6 : decide ((l.length : Int) ≤ 6) = decide (l.length ≤ 6) := decide_eq_decide.mpr (by omega)
        show Q (.bl (decide ((l.length : Int) ≤ 6))) H'
        rw [e6]
        exact q'
      · rw [if_neg (fun z => e1 (by have := of_decide_eq_true z; omega))]
        rw [decide_eq_false e1, Bool.false_and] at q'
        exact q'
    · rw [if_neg e]
      have q' := q H' k1 k2
      rw [Bool.eq_false_iff.mpr e, Bool.false_and] at q'
      exact q'
  · refine ⟨_, rfl, _, rfl, .inr ⟨n, _, rfl, ?_⟩⟩
    rw [if_neg Bool.false_ne_true]
    exact q

end
end Vf

set_option maxRecDepth 100000
set_option maxHeartbeats 4000000
namespace Vf
open PySem PySem.Spec PyProof.Rows L2 SX
section
variable {P : Program} {w : World} {K : PySem.W.Frag} {mg : Str → Option Value} {base : Heap}
theorem ok_linesOf {f : Addr} {fd : FuncData} (F : C8.Def K mg "lines_of" s_linesOf f fd) (b : Binds K fd ["text"] []) (T : Tx K w mg)  : C8.Cal P w K mg base 1 "lines_of" sp_linesOf [] := by
  refine C8.cal0 F b .nil sc_linesOf (fun vs H Q E h => ?_) (fun cdv A outer s H vs Q E hr h => ?_)
  · obtain ⟨l, rfl, _⟩ := h; rfl
  have hu := hu_of hr
  refine ⟨_, (pss_one (ps_ret (pe_callTy call_tuple_of (by rfl) T.z_tuple (by decide +kernel) (pa_cons (pe_split (pv 0) pe_str) pa_nil)))), ?_⟩

  obtain ⟨l, rfl, hl, q⟩ := h
  refine ⟨_, rfl, ⟨_, rfl⟩, _, _, rfl, rfl, rfl, by rw [S_len]; exact szB (by omega), fun p hp => ?_⟩
  rw [show (S l) = S l from rfl, show (Str.ofString "\n") = S [10] from rfl, split_nl, List.map_map]
  refine ⟨p, _, rfl, .inl ⟨SqL.of upd_same, fun t ht => ?_⟩⟩
  have hp2 : H t = none := by
    by_cases e : t = p
    · subst e; exact hp
    · rw [upd_ne e] at ht; exact ht
  exact q _ t (same_new (same_new (fun _ _ z => z) hp _) ht _) ((Ks.new1 hp _).trans (Ks.new1 ht _)) upd_same

end
end Vf

set_option maxRecDepth 100000
set_option maxHeartbeats 4000000
namespace Vf
open PySem PySem.Spec PyProof.Rows L2 SX
section
variable {P : Program} {w : World} {K : PySem.W.Frag} {mg : Str → Option Value} {base : Heap}
theorem ok_textOf {f : Addr} {fd : FuncData} (F : C8.Def K mg "text_of" s_textOf f fd) (b : Binds K fd ["lines"] []) (T : Tx K w mg)  : C8.Cal P w K mg base 1 "text_of" (sp_textOf K) [] := by
  refine C8.cal0 F b .nil sc_textOf (fun vs H Q E h => ?_) (fun cdv A outer s H vs Q E hr h => ?_)
  · obtain ⟨p, ls, rfl, _⟩ := h; rfl
  have hu := hu_of hr
  refine ⟨_, (pss_one (ps_ret (pe_join pe_str (pv 0)))), ?_⟩

  obtain ⟨p, ls, rfl, hp, hl, q⟩ := h
  have e : (ls.map fun x => V.str (S x)) = (ls.map S).map V.str := by rw [List.map_map]; rfl
  rw [e] at hp
  refine ⟨⟨_, rfl⟩, _, rfl, S [10], p, ls.map S, rfl, rfl, hp, ?_, ?_⟩
  · rw [List.map_map, List.length_map]
    show (ls.map List.length).sum + ls.length * 1 ≤ 16777216
    omega
  · rw [join_S]
    exact q

end
end Vf

set_option maxRecDepth 100000
set_option maxHeartbeats 4000000
namespace Vf
open PySem PySem.Spec PyProof.Rows L2 SX
section
variable {P : Program} {w : World} {K : PySem.W.Frag} {mg : Str → Option Value} {base : Heap}
theorem nl_take {l : List Nat} {i c : Nat} (h : l[i]? = some c) : nlAt 0 (l.take (i + 1)) = nlAt 0 (l.take i) ++ (if c = 10 then [i + 1] else []) := by
  have hi : i < l.length := (List.getElem?_eq_some_iff.mp h).1
  rw [List.take_add_one, h]
  show nlAt 0 (l.take i ++ [c]) = _
  rw [nlAt_snoc, List.length_take, Nat.min_eq_left (Nat.le_of_lt hi), Nat.zero_add]
theorem ok_lineStarts {f : Addr} {fd : FuncData} (F : C8.Def K mg "line_starts" s_lineStarts f fd) (b : Binds K fd ["text"] []) (T : Tx K w mg)  : C8.Cal P w K mg base 1 "line_starts" sp_lineStarts [] := by
  refine C8.cal0 F b .nil sc_lineStarts (fun vs H Q E h => ?_) (fun cdv A outer s H vs Q E hr h => ?_)
  · obtain ⟨l, rfl, _⟩ := h; rfl
  have hu := hu_of hr
  refine ⟨_, (pss_cons (ps_set (i := 1) sc_lineStarts.nd rfl (Or.inl rfl) (pe_lst (pa_cons pe_int pa_nil)))
      (pss_cons (ps_expr (pe_bm PySem.F.plainAttrs_list PySem.F.slot_list_extend PySem.F.type_list_extend mt_extend (pv 1) (pa_cons (pe_lc (own := [("place", 2), ("sign", 3)]) (g := (gTup K 2 (gCons (gName 2) (gCons (gName 3) gNil)))) (tt := _) rfl sc_lineStarts.nd (pi_enumS (by rfl) T.z_enumerate (pa_cons (pv 0) pa_nil)) (blkOk_by (N := N_lineStarts) (sc := C8.fnScope s_lineStarts) (by decide +kernel)) (fun _ _ _ _ _ => pg_tup (by rfl) (pgs_cons (pg_name (i := 2) sc_lineStarts.nd rfl (Or.inl rfl)) (pgs_cons (pg_name (i := 3) sc_lineStarts.nd rfl (Or.inl rfl)) pgs_nil))) (fun _ _ _ _ _ => pts_one (pt_cmpR op_eq (pv 3) pe_str (nomark _))) (fun _ _ _ _ _ => (pe_op op_add (pv 2) pe_int))) pa_nil)))
      (pss_one (ps_ret (pe_callTy call_tuple_of (by rfl) T.z_tuple (by decide +kernel) (pa_cons (pv 1) pa_nil)))))), ?_⟩

  obtain ⟨l, rfl, hl, q⟩ := h
  refine ⟨sz_1, fun L hL => ?_⟩
  have h0 : (upd H L (.lst [.int 0])) L = some (.lst [.int 0]) := upd_same
  refine ⟨_, rfl, .inl ⟨rfl, _, SqL.of h0⟩, ?_⟩
  refine ⟨_, rfl, S l, rfl, fun D hD => ?_⟩
  have nDL : D ≠ L := fun z => by rw [z, h0] at hD; cases hD
  have hH : H D = none := by rw [upd_ne nDL] at hD; exact hD
  refine lc_it (walk_enumS (x := S l)) (fun i H' => Ks H H' ∧ Same H H' ∧ H' L = some (.lst [.int 0]) ∧ H' D = some (.lst ((nlAt 0 (l.take i)).map fun n => V.int ((n : Nat) : Int)))) ?_ (fun _ _ _ _ => trivial) (fun i x H1 H2 hi e y => ?_) (fun H1 e => ?_)
  · exact ⟨(Ks.new1 hL _).trans (Ks.new1 hD _), same_new (same_new (fun _ _ z => z) hL _) hD _, by rw [upd_ne nDL.symm]; exact h0, upd_same⟩
  · obtain ⟨T, c, rfl, hT, hc, rfl⟩ := y
    obtain ⟨e1, e2, e3, e4⟩ := e
    have hc' : l[i]? = some c := by simpa using hc
    have hi' : i < l.length := (List.getElem?_eq_some_iff.mp hc').1
    have nT : ∀ {b : Addr} {o : HO}, H1 b = some o → b ≠ T := fun g => ne_of_none g hT
    have hI : (.str ⟨#[c]⟩ : V) = .str (S [c]) := rfl
    have k1 : Ks H (upd H1 T (.tup [.int (i : Nat), .str ⟨#[c]⟩])) := e1.trans (Ks.new1 hT _)
    have k2 : Same H (upd H1 T (.tup [.int (i : Nat), .str ⟨#[c]⟩])) := same_new e2 hT _
    have k3 : (upd H1 T (.tup [.int (i : Nat), .str ⟨#[c]⟩])) L = some (.lst [.int 0]) := by rw [upd_ne (nT e3)]; exact e3
    have k4 : (upd H1 T (.tup [.int (i : Nat), .str ⟨#[c]⟩])) D = some (.lst ((nlAt 0 (l.take i)).map fun n => V.int ((n : Nat) : Int))) := by rw [upd_ne (nT e4)]; exact e4
    refine ⟨T, _, rfl, SqT.of upd_same, rfl, _, _, rfl, _, _, rfl, rfl, rfl, ?_⟩
    refine ⟨_, rfl, rfl, _, rfl, ?_⟩
    by_cases ec : c = 10
    · subst ec
      rw [if_pos (by decide)]
      refine ⟨_, rfl, _, _, rfl, rfl, _, k4, szL (by rw [List.length_map]; have := nlAt_len (l.take i) 0; rw [List.length_take] at this; omega), ?_⟩
      refine ⟨k1.upd hH _, same_upd k2 hH _, by rw [upd_ne nDL.symm]; exact k3, ?_⟩
      rw [upd_same, nl_take hc', if_pos rfl, List.map_append]
      rfl
    · have en : decide ((V.str ⟨#[c]⟩) = V.str (Str.ofString "\n")) = false := decide_eq_false fun z => ec (by have z2 : (⟨#[c]⟩ : Str) = S [10] := V.str.inj z; simpa using congrArg (fun t : Str => t.cps.toList) z2)
      dsimp only
      rw [en, if_neg Bool.false_ne_true]
      refine ⟨k1, k2, k3, ?_⟩
      rw [k4, nl_take hc', if_neg ec, List.append_nil]
  · obtain ⟨e1, e2, e3, e4⟩ := e
    rw [show (S l).cps.size = l.length by simp, List.take_length] at e4
    have e5 : (upd H1 L (.lst (starts l))) L = some (.lst (starts l)) := upd_same
    refine ⟨L, D, _, _, rfl, rfl, e3, e4, szB (by rw [List.length_map]; have := nlAt_len l 0; show 1 + _ ≤ _; omega), ?_⟩
    refine ⟨_, rfl, L, starts l, rfl, .inl ⟨SqL.of e5, fun t ht => ?_⟩⟩
    have ht1 : H1 t = none := by
      by_cases z : t = L
      · subst z; exact nomatch e5.symm.trans ht
      · rw [upd_ne z] at ht; exact ht
    exact q _ t (same_upd (same_upd e2 hL _) (by
      cases g : H t with
      | none => rfl
      | some o => rw [e2 t o g] at ht1; cases ht1) _) ((e1.upd hL _).trans (Ks.new1 ht _)) upd_same

end
end Vf

set_option maxRecDepth 100000
set_option maxHeartbeats 4000000
namespace Vf
open PySem PySem.Spec PyProof.Rows L2 SX
section
variable {P : Program} {w : World} {K : PySem.W.Frag} {mg : Str → Option Value} {base : Heap}
theorem ok_lawWord {f : Addr} {fd : FuncData} (F : C8.Def K mg "_law_word" s_lawWord f fd) (b : Binds K fd ["_law_pen_here", "_law_signs", "_law_most"] []) (T : Tx K w mg) (C_draw : C8.Cal P w K mg base 1 "_law_draw" sp_draw []) (C_pick : C8.Cal P w K mg base 2 "_law_pick" sp_pick []) : C8.Cal P w K mg base 3 "_law_word" sp_lawWord [] := by
  refine C8.cal0 F b .nil sc_lawWord (fun vs H Q E h => ?_) (fun cdv A outer s H vs Q E hr h => ?_)
  · obtain ⟨p, c, m, n, sg, rfl, _⟩ := h; rfl
  have hu := hu_of hr
  refine ⟨_, (pss_one (ps_ret (pe_join pe_str (pe_lc (own := [("_law_k", 3)]) (g := (gName 3)) (tt := tYes) rfl sc_lawWord.nd (pi_range1 (by rfl) T.z_range (pa_cons (pe_op op_add pe_int (C8.pe_c C_draw hr (by decide) rfl (pa_cons (pv 0) (pa_cons (pv 2) pa_nil)))) pa_nil)) (blkOk_by (N := N_lawWord) (sc := C8.fnScope s_lawWord) (by decide +kernel)) (fun _ _ _ _ _ => pg_name (i := 3) sc_lawWord.nd rfl (Or.inl rfl)) (fun _ _ _ _ _ => pts_nil) (fun _ _ _ _ _ => (C8.pe_c C_pick hr (by decide) rfl (pa_cons (pv 0) (pa_cons (pv 1) pa_nil)))))))), ?_⟩

  obtain ⟨p, c, m, n, sg, rfl, hp, hm, hn1, hn2, hs1, hs2, q⟩ := h
  refine ⟨⟨_, rfl⟩, _, rfl, _, rfl, p, c, m, n, rfl, hp, by omega, hn1, by omega, fun H1 r k1 k2 hr1 => ?_⟩
  refine ⟨_, _, rfl, rfl, _, rfl, by omega, by omega, fun D hD => ?_⟩
  rw [show ((1 : Int) + (r : Int)).toNat = 1 + r by omega]
  refine lc_pen (m0 := m + 1) (s := 1) (k := 3) (fun v _ => Ones (· ∈ sg) v) (fun _ _ _ _ h => h) (by show 3 < 4; decide) hD k2 (by omega) (fun i H2 m2 Q2 hi hp2 hm2 hq => ?_) (fun H2 xs e1 e2 e3 e4 e5 => ?_)
  · exact ⟨_, rfl, _, rfl, p, c, m2, _, rfl, hp2, by omega, .inl ⟨sg, rfl, hs1, by omega, fun H3 ch j1 j2 j3 => hq H3 _ j1 j2 ⟨ch, rfl, j3⟩⟩⟩
  · obtain ⟨t, rfl, ht⟩ := ones_of e2
    have et : t.length = 1 + r := by rw [← e1, List.length_map, List.length_map]
    refine ⟨S [], D, t.map fun c => S [c], rfl, rfl, .inl (SqL.of e3), ones_bound (by omega), ?_⟩
    rw [join_ones]
    exact q H2 t (k1.trans e4) (e5.mono (by omega)) (by omega) (by omega) ht

end
end Vf

set_option maxRecDepth 100000
set_option maxHeartbeats 4000000
namespace Vf
open PySem PySem.Spec PyProof.Rows L2 SX
section
variable {P : Program} {w : World} {K : PySem.W.Frag} {mg : Str → Option Value} {base : Heap}
theorem sg_all : signsL.all isS = true := by decide +kernel
def ValOk (K : PySem.W.Frag) (H : Hp) (x : V) (d : PyData) (b2 b3 : Bool) : Prop := Dp K H x d ∧
  ((∃ l, x = .str (S l) ∧ l.length ≤ 100 ∧ (l.length == 1 && l.all isS) = false ∧ l.all isS = b2 ∧ (l.all isS && (decide (1 ≤ l.length) && decide (l.length ≤ 6))) = b3) ∨ (NotStr K H x ∧ b2 = false ∧ b3 = false))
def vds : List PyData := [.str (S []), .str (S [97, 98])]
structure ValD (d : PyData) (b2 b3 : Bool) : Prop where
  sh : SeqAt.shaped d = true
  b2 : (vds.any fun z => PyData.eqv z d) = b2
  b3 : PyData.eqv d (.str (S [97, 98])) = b3
theorem en0 : (!PyData.eqv (.list []) (.list [])) = false := by decide +kernel
theorem ok_areSignsRight {f : Addr} {fd : FuncData} (F : C8.Def K mg "_law_are_signs_right" s_areSignsRight f fd) (b : Binds K fd ["_law_pen_here"] []) (T : Tx K w mg) (C_lawSigns : C8.Cal P w K mg base 1 "_law_all_signs" sp_lawSigns []) (C_isSign : C8.Cal P w K mg base 1 "is_sign" (sp_isSign K) []) (C_allSigns : C8.Cal P w K mg base 1 "all_signs" sp_allSigns []) (C_isText : C8.Cal P w K mg base 1 "is_text" (sp_isText K) []) (C_isWord : C8.Cal P w K mg base 2 "is_word" (sp_isWord K) []) (C_draw : C8.Cal P w K mg base 1 "_law_draw" sp_draw []) (C_pick : C8.Cal P w K mg base 2 "_law_pick" sp_pick []) : C8.Cal P w K mg base 4 "_law_are_signs_right" sp_areSignsRight [] := by
  refine C8.cal0 F b .nil sc_areSignsRight (fun vs H Q E h => ?_) (fun cdv A outer s H vs Q E hr h => ?_)
  · obtain ⟨p, c, m, rfl, _⟩ := h; rfl
  have hu := hu_of hr
  refine ⟨_, (pss_cons (ps_set (i := 1) sc_areSignsRight.nd rfl (Or.inr rfl) (pe_c0 C_lawSigns hr (by decide) rfl))
      (C8.pss_cut (ps_if (PW.pt (pw_or (pt_cmpR op_ne (pe_c0 C_allSigns hr (by decide) rfl) (pv 1) (nomark _)) (pw_or1 (pt_cmpR (op_neD hr.units) (pe_lc (own := [("_law_sign", 4)]) (g := (gName 4)) (tt := _) rfl sc_areSignsRight.nd (pi_str (pv 1)) (blkOk_by (N := N_areSignsRight) (sc := C8.fnScope s_areSignsRight) (by decide +kernel)) (fun _ _ _ _ _ => pg_name (i := 4) sc_areSignsRight.nd rfl (Or.inl rfl)) (fun _ _ _ _ _ => pts_one (pt_not (pt_val (C8.pe_c C_isSign hr (by decide) rfl (pa_cons (pv 4) pa_nil))))) (fun _ _ _ _ _ => (pv 4))) (pe_lst pa_nil) (nomark _)))))
      (pss_one (ps_ret pe_bl))
      pss_nil)
      (pss_cons (ps_if (pt_cmpR (op_neD hr.units) (pe_lc (own := [("_law_sign", 4)]) (g := (gName 4)) (tt := _) rfl sc_areSignsRight.nd (pi_str (pv 1)) (blkOk_by (N := N_areSignsRight) (sc := C8.fnScope s_areSignsRight) (by decide +kernel)) (fun _ _ _ _ _ => pg_name (i := 4) sc_areSignsRight.nd rfl (Or.inl rfl)) (fun _ _ _ _ _ => pts_one (pt_not (pt_val (C8.pe_c C_isText hr (by decide) rfl (pa_cons (pe_op op_add_str (pv 4) (pv 4)) pa_nil))))) (fun _ _ _ _ _ => (pv 4))) (pe_lst pa_nil) (nomark _))
      (pss_one (ps_ret pe_bl))
      pss_nil)
      (pss_cons (ps_for PassesOwn.never rfl (pi_list (pe_lst (pa_cons pe_str (pa_cons pe_str (pa_cons pe_str (pa_cons pe_non (pa_cons pe_int (pa_cons (pe_tup (pa_cons pe_str pa_nil)) (pa_cons (pe_lst (pa_cons pe_str pa_nil)) (pa_cons pe_bl (pa_cons pe_str pa_nil))))))))))) (pg_name (i := 2) sc_areSignsRight.nd rfl (Or.inl rfl))
      (pss_one (ps_if (PW.pt (pw_or (pt_val (C8.pe_c C_isSign hr (by decide) rfl (pa_cons (pv 2) pa_nil))) (pw_or (pt_cmpR op_ne (C8.pe_c C_isText hr (by decide) rfl (pa_cons (pv 2) pa_nil)) (pe_cmpR (op_inD (hu65 hr)) (pv 2) (pe_lst (pa_cons pe_str (pa_cons pe_str pa_nil))) rfl) (nomark _)) (pw_or1 (pt_cmpR op_ne (C8.pe_c C_isWord hr (by decide) rfl (pa_cons (pv 2) pa_nil)) (pe_cmpR (op_eqD hr.units) (pv 2) pe_str (nomark _)) (nomark _))))))
      (pss_one (ps_ret pe_bl))
      pss_nil)))
      (pss_cons (ps_set (i := 3) sc_areSignsRight.nd rfl (Or.inl rfl) (pe_join pe_str (pe_lc (own := [("_law_k", 5)]) (g := (gName 5)) (tt := tYes) rfl sc_areSignsRight.nd (pi_range1 (by rfl) T.z_range (pa_cons (C8.pe_c C_draw hr (by decide) rfl (pa_cons (pv 0) (pa_cons pe_int pa_nil))) pa_nil)) (blkOk_by (N := N_areSignsRight) (sc := C8.fnScope s_areSignsRight) (by decide +kernel)) (fun _ _ _ _ _ => pg_name (i := 5) sc_areSignsRight.nd rfl (Or.inl rfl)) (fun _ _ _ _ _ => pts_nil) (fun _ _ _ _ _ => (C8.pe_c C_pick hr (by decide) rfl (pa_cons (pv 0) (pa_cons (pv 1) pa_nil)))))))
      (pss_one (ps_ret (pe_and (C8.pe_c C_isText hr (by decide) rfl (pa_cons (pv 3) pa_nil)) (pe_one (pe_cmpR op_eq (C8.pe_c C_isWord hr (by decide) rfl (pa_cons (pv 3) pa_nil)) (pe_chain op_le op_le pe_int (pe_callB call_len (by rfl) T.z_len PySem.boot_len (pa_cons (pv 3) pa_nil)) pe_int) (nomark _))))))))))), ?_⟩

  obtain ⟨p, c, m, rfl, hp, hm, q⟩ := h
  refine ⟨rfl, ?_⟩
  refine ⟨fun σ' H' => σ' = [some (.ref p), some (.str (S signsL)), none, none, none, none] ∧ Ks H H' ∧ PenAt H' p c m, ?_, ?_⟩
  · refine ⟨rfl, _, rfl, rfl, _, rfl, ?_⟩
    rw [show (!decide (V.str (S signsL) = V.str (S signsL))) = false from congrArg (!·) (decide_eq_true rfl)]
    refine ifF ?_
    refine ⟨_, rfl, _, rfl, fun D hD => ?_⟩
    refine lc_it (walk_str (z := S signsL)) (fun i H' => Same H H' ∧ H' D = some (.lst [])) ⟨same_new (fun _ _ z => z) hD _, upd_same⟩ (fun _ _ _ _ => trivial) (fun i x H1 H2 hi e y => ?_) (fun H1 e => ?_)
    · obtain ⟨eH, ch, hc, rfl⟩ := y
      subst eH
      have hc' : signsL[i]? = some ch := by simpa using hc
      have hS : isS ch = true := decide_eq_true (List.mem_of_getElem? hc')
      refine ⟨rfl, ?_⟩
      refine ⟨_, rfl, _, rfl, .inl ⟨[ch], rfl, (by show 1 ≤ 100000; decide), _, rfl, ?_⟩⟩
      have e0 : ([ch].length == 1 && [ch].all isS) = true := by simp [hS]
      rw [e0]
      exact ifF e
    · refine ⟨szB (Nat.zero_le _), fun p2 hp2 => ⟨.list [], .list [], .lst (SqL.of (by rw [upd_ne (ne_of_none e.2 hp2)]; exact e.2)) .nil, .lst (SqL.of upd_same) .nil, rfl, rfl, _, rfl, ?_⟩⟩
      rw [en0]
      refine ifF ?_
      have f1 : Same H (upd H1 p2 (.lst [])) := same_new e.1 hp2 _
      exact ⟨rfl, Ks.of f1, hp.same f1⟩
  · rintro σ' H1 ⟨rfl, k1, k2⟩
    refine ⟨_, rfl, _, rfl, fun D hD => ?_⟩
    refine lc_it (walk_str (z := S signsL)) (fun i H' => Same H1 H' ∧ H' D = some (.lst [])) ⟨same_new (fun _ _ z => z) hD _, upd_same⟩ (fun _ _ _ _ => trivial) (fun i x H2 H3 hi e y => ?_) (fun H2 e => ?_)
    · obtain ⟨eH, ch, hc, rfl⟩ := y
      subst eH
      have hc' : signsL[i]? = some ch := by simpa using hc
      have hS : isS ch = true := decide_eq_true (List.mem_of_getElem? hc')
      refine ⟨rfl, ?_⟩
      refine ⟨_, rfl, _, rfl, _, _, rfl, rfl, (by show 1 + 1 ≤ sizeLine; decide), _, rfl, .inl ⟨[ch, ch], rfl, (by show 2 ≤ 100000; decide), fun H4 g1 g2 => ⟨_, rfl, ?_⟩⟩⟩
      have e0 : ([ch, ch].all isS) = true := by simp [hS]
      rw [e0]
      exact ifF ⟨Same.trans e.1 g1, g1 _ _ e.2⟩
    · refine ⟨szB (Nat.zero_le _), fun p2 hp2 => ⟨.list [], .list [], .lst (SqL.of (by rw [upd_ne (ne_of_none e.2 hp2)]; exact e.2)) .nil, .lst (SqL.of upd_same) .nil, rfl, rfl, _, rfl, ?_⟩⟩
      rw [en0]
      refine ifF ?_
      have f1 : Same H1 (upd H2 p2 (.lst [])) := same_new e.1 hp2 _
      refine ⟨szB (by show 1 ≤ 1000000; decide), fun tp htp => ⟨szB (by show 1 ≤ 1000000; decide), fun lp hlp => ⟨szB (by show 9 ≤ 1000000; decide), fun A0 hA => ?_⟩⟩⟩
      have hT : (upd (upd H2 p2 (.lst [])) tp (.tup [V.str (S [97])])) tp = some (.tup [V.str (S [97])]) := upd_same
      have hLs : (upd (upd (upd H2 p2 (.lst [])) tp (.tup [V.str (S [97])])) lp (.lst [V.str (S [97])])) lp = some (.lst [V.str (S [97])]) := upd_same
      have hT2 : (upd (upd (upd H2 p2 (.lst [])) tp (.tup [V.str (S [97])])) lp (.lst [V.str (S [97])])) tp = some (.tup [V.str (S [97])]) := by rw [upd_ne (ne_of_none hT hlp)]; exact hT
      let xs : List V := [.str (S []), .str (S [97, 98]), .str (S [9]), .non, .int 5, .ref tp, .ref lp, .bl true, .str (S [97, 9])]
      let H5 := upd (upd (upd (upd H2 p2 (.lst [])) tp (.tup [V.str (S [97])])) lp (.lst [V.str (S [97])])) A0 (.lst xs)
      have hT5 : H5 tp = some (.tup [V.str (S [97])]) := by show upd _ A0 _ tp = _; rw [upd_ne (ne_of_none hT2 hA)]; exact hT2
      have hL5 : H5 lp = some (.lst [V.str (S [97])]) := by show upd _ A0 _ lp = _; rw [upd_ne (ne_of_none hLs hA)]; exact hLs
      have hA5 : H5 A0 = some (.lst xs) := upd_same
      have vals : ∀ (i : Nat) (x : V), xs[i]? = some x → ∃ d b2 b3, ValD d b2 b3 ∧ ∀ H', Same H5 H' → ValOk K H' x d b2 b3 := by
        intro i x hx
        have nsT : ∀ {H' : Hp} {x : V} {t : String}, TyX K H' x (.type t) → kitB t "str" = some false → NotStr K H' x := fun h e => ⟨_, h, kit_ty e⟩
        match i, hx with
        | 0, hx => cases hx; exact ⟨.str (S []), true, false, ⟨by decide +kernel, by decide +kernel, by decide +kernel⟩, fun H' _ => ⟨.str _, .inl ⟨[], rfl, by decide, by decide +kernel, by decide +kernel, by decide +kernel⟩⟩⟩
        | 1, hx => cases hx; exact ⟨.str (S [97, 98]), true, true, ⟨by decide +kernel, by decide +kernel, by decide +kernel⟩, fun H' _ => ⟨.str _, .inl ⟨[97, 98], rfl, by decide, by decide +kernel, by decide +kernel, by decide +kernel⟩⟩⟩
        | 2, hx => cases hx; exact ⟨.str (S [9]), false, false, ⟨by decide +kernel, by decide +kernel, by decide +kernel⟩, fun H' _ => ⟨.str _, .inl ⟨[9], rfl, by decide, by decide +kernel, by decide +kernel, by decide +kernel⟩⟩⟩
        | 3, hx => cases hx; exact ⟨.none, false, false, ⟨by decide +kernel, by decide +kernel, by decide +kernel⟩, fun H' _ => ⟨.non, .inr ⟨nsT (.base .non) (by decide +kernel), rfl, rfl⟩⟩⟩
        | 4, hx => cases hx; exact ⟨.int 5, false, false, ⟨by decide +kernel, by decide +kernel, by decide +kernel⟩, fun H' _ => ⟨.int _, .inr ⟨nsT (.base (.int _)) (by decide +kernel), rfl, rfl⟩⟩⟩
        | 5, hx => cases hx; exact ⟨.tuple [.str (S [97])], false, false, ⟨by decide +kernel, by decide +kernel, by decide +kernel⟩, fun H' g => ⟨.tup (SqT.of (g _ _ hT5)) (.cons (.str _) .nil), .inr ⟨nsT (.base (.tup (g _ _ hT5))) (by decide +kernel), rfl, rfl⟩⟩⟩
        | 6, hx => cases hx; exact ⟨.list [.str (S [97])], false, false, ⟨by decide +kernel, by decide +kernel, by decide +kernel⟩, fun H' g => ⟨.lst (SqL.of (g _ _ hL5)) (.cons (.str _) .nil), .inr ⟨nsT (.base (.lst (g _ _ hL5))) (by decide +kernel), rfl, rfl⟩⟩⟩
        | 7, hx => cases hx; exact ⟨.bool true, false, false, ⟨by decide +kernel, by decide +kernel, by decide +kernel⟩, fun H' _ => ⟨.bl _, .inr ⟨nsT (.base (.bl _)) (by decide +kernel), rfl, rfl⟩⟩⟩
        | 8, hx => cases hx; exact ⟨.str (S [97, 9]), false, false, ⟨by decide +kernel, by decide +kernel, by decide +kernel⟩, fun H' _ => ⟨.str _, .inl ⟨[97, 9], rfl, by decide, by decide +kernel, by decide +kernel, by decide +kernel⟩⟩⟩
        | i + 9, hx => exact nomatch hx
      have f5 : Same H1 H5 := same_new (same_new (same_new f1 htp _) hlp _) hA _
      refine ⟨A0, rfl, ⟨xs, SqL.of hA5⟩, ?_⟩
      refine for_it (walk_list (K := K) (a := A0) (xs := xs)) (fun i σ' H' => ∃ v2, σ' = [some (.ref p), some (.str (S signsL)), v2, none, none, none] ∧ Same H5 H') ⟨none, rfl, fun _ _ z => z⟩ (fun i σ' H' _ e => ?_) (fun i x σ' H3 H4 hi e y => ?_) (fun σ' H3 e => ?_)
      · obtain ⟨v2, rfl, e1⟩ := e
        exact SqL.of (e1 _ _ hA5)
      · obtain ⟨rfl, hx⟩ := y
        obtain ⟨v2, rfl, e1⟩ := e
        obtain ⟨d, b2, b3, vd, vo⟩ := vals i x hx
        have ed : ∀ b : Bool, (!decide (V.bl b = V.bl b)) = false := fun b => congrArg (!·) (decide_eq_true rfl)
        rcases (vo _ e1).2 with ⟨l, rfl, l1, l2, l3, l4⟩ | ⟨ns, rfl, rfl⟩
        · refine ⟨_, rfl, _, rfl, .inl ⟨l, rfl, by omega, _, rfl, ?_⟩⟩
          rw [l2]
          refine ifF ?_
          refine ⟨_, rfl, _, rfl, .inl ⟨l, rfl, by omega, fun H6 g1 g2 => ?_⟩⟩
          refine ⟨_, rfl, sz_2, fun p3 hp3 => ?_⟩
          have g3 : Same H5 (upd H6 p3 (.lst [V.str (S []), V.str (S [97, 98])])) := same_new (Same.trans e1 g1) hp3 _
          refine ⟨d, vds, (vo _ g3).1, .lst (SqL.of upd_same) (.cons (.str _) (.cons (.str _) .nil)), vd.sh, by decide +kernel, rfl, _, rfl, ?_⟩
          rw [vd.b2, l3, ed]
          refine ifF ?_
          refine ⟨_, rfl, _, rfl, .inl ⟨l, rfl, by omega, fun H7 g4 g5 => ?_⟩⟩
          refine ⟨_, rfl, d, .str (S [97, 98]), (vo _ (Same.trans g3 g4)).1, .str _, vd.sh, by decide +kernel, rfl, _, rfl, ?_⟩
          rw [vd.b3, l4, ed]
          exact ifF ⟨_, rfl, Same.trans g3 g4⟩
        · refine ⟨_, rfl, _, rfl, .inr ⟨ns, _, rfl, ?_⟩⟩
          refine ifF ?_
          refine ⟨_, rfl, _, rfl, .inr ⟨ns, ?_⟩⟩
          refine ⟨_, rfl, sz_2, fun p3 hp3 => ?_⟩
          have g3 : Same H5 (upd _ p3 (.lst [V.str (S []), V.str (S [97, 98])])) := same_new e1 hp3 _
          refine ⟨d, vds, (vo _ g3).1, .lst (SqL.of upd_same) (.cons (.str _) (.cons (.str _) .nil)), vd.sh, by decide +kernel, rfl, _, rfl, ?_⟩
          rw [vd.b2, ed]
          refine ifF ?_
          rcases (vo _ g3).2 with ⟨l, rfl, l1, _, _, l4⟩ | ⟨ns3, _⟩
          · refine ⟨_, rfl, _, rfl, .inl ⟨l, rfl, by omega, fun H7 g4 g5 => ?_⟩⟩
            refine ⟨_, rfl, d, .str (S [97, 98]), (vo _ (Same.trans g3 g4)).1, .str _, vd.sh, by decide +kernel, rfl, _, rfl, ?_⟩
            rw [vd.b3, l4, ed]
            exact ifF ⟨_, rfl, Same.trans g3 g4⟩
          · refine ⟨_, rfl, _, rfl, .inr ⟨ns3, ?_⟩⟩
            refine ⟨_, rfl, d, .str (S [97, 98]), (vo _ g3).1, .str _, vd.sh, by decide +kernel, rfl, _, rfl, ?_⟩
            rw [vd.b3, ed]
            exact ifF ⟨_, rfl, g3⟩
      · obtain ⟨v2, rfl, e1⟩ := e
        have pen : PenAt H3 p c m := (k2.same f5).same e1
        refine ⟨⟨_, rfl⟩, _, rfl, p, c, m, 9, rfl, pen, by omega, by omega, by omega, fun H6 r j1 j2 hr1 => ?_⟩
        refine ⟨_, rfl, by omega, by omega, fun D2 hD2 => ?_⟩
        rw [show ((r : Int)).toNat = r by omega]
        refine lc_pen (m0 := m + 1) (s := 1) (k := 5) (fun v _ => Ones (· ∈ signsL) v) (fun _ _ _ _ h => h) (by show 5 < 6; decide) hD2 j2 (by omega) (fun i H7 m2 Q2 hi hp2 hm2 hq => ?_) (fun H7 ys e1 e2 e3 e4 e5 => ?_)
        · exact ⟨_, rfl, _, rfl, p, c, m2, _, rfl, hp2, by omega, .inl ⟨signsL, rfl, by decide, by decide, fun H8 ch j1 j2 j3 => hq H8 _ j1 j2 ⟨ch, rfl, j3⟩⟩⟩
        · obtain ⟨t, rfl, ht⟩ := ones_of e2
          have et : t.length = r := by rw [← e1, List.length_map, List.length_map]
          refine ⟨S [], D2, t.map fun c => S [c], rfl, rfl, .inl (SqL.of e3), ones_bound (by omega), ?_⟩
          rw [join_ones]
          have ta : t.all isS = true := List.all_eq_true.mpr fun c hc => decide_eq_true (ht c hc)
          refine ⟨_, rfl, _, rfl, .inl ⟨t, rfl, by omega, fun H8 g1 g2 => ⟨_, rfl, ?_⟩⟩⟩
          rw [ta]
          refine ifT ?_
          refine ⟨_, rfl, _, rfl, .inl ⟨t, rfl, by omega, fun H9 g3 g4 => ?_⟩⟩
          have fin := q H9 ((k1.trans (Ks.of f5)).trans ((Ks.of (by assumption)).trans ((j1.trans e4).trans (g2.trans g4)))) ((((e5.same g1).same g3)).mono (by omega))
          refine ⟨_, rfl, _, t.length, rfl, ⟨by rw [S_len]; exact szB (by omega), by rw [S_len]⟩, _, _, rfl, rfl, _, rfl, ?_⟩
          by_cases n1 : 1 ≤ t.length
          · rw [if_pos (decide_eq_true (by omega : (1 : Int) ≤ (t.length : Int)))]
            have e9 : decide (V.bl (t.all isS && (decide (1 ≤ t.length) && decide (t.length ≤ 6))) = V.bl (decide ((t.length : Int) ≤ 6))) = true := decide_eq_true (by
              rw [ta, decide_eq_true n1, Bool.true_and, Bool.true_and]
              exact congrArg V.bl (decide_eq_decide.mpr (by omega)))
            refine ⟨_, _, rfl, rfl, rfl, ?_⟩
            show Q (.bl (decide (V.bl (t.all isS && (decide (1 ≤ t.length) && decide (t.length ≤ 6))) = V.bl (decide ((t.length : Int) ≤ 6))))) H9
            rw [e9]
            exact fin
          · rw [if_neg (fun z => n1 (by have := of_decide_eq_true z; omega))]
            have e9 : decide (V.bl (t.all isS && (decide (1 ≤ t.length) && decide (t.length ≤ 6))) = V.bl false) = true := decide_eq_true (by
              rw [decide_eq_false n1, Bool.false_and, Bool.and_false])
            refine ⟨rfl, ?_⟩
            show Q (.bl (decide (V.bl (t.all isS && (decide (1 ≤ t.length) && decide (t.length ≤ 6))) = V.bl false))) H9
            rw [e9]
            exact fin

end
end Vf

set_option maxRecDepth 100000
set_option maxHeartbeats 4000000
namespace Vf
open PySem PySem.Spec PyProof.Rows L2 SX
section
variable {P : Program} {w : World} {K : PySem.W.Frag} {mg : Str → Option Value} {base : Heap}
set_option maxHeartbeats 0
theorem ok_firstErrors {f : Addr} {fd : FuncData} (F : C8.Def K mg "_law_first_errors" s_firstErrors f fd) (b : Binds K fd ["_law_a", "_law_b", "_law_c"] []) (T : Tx K w mg) {cs0 : List Addr} {W0 : Addr} (ES : Es P w K mg base cs0 W0)  : C8.Cal P w K mg base 3 "_law_first_errors" (sp_firstErrors cs0) [] := by
  refine C8.cal0 F b .nil sc_firstErrors (fun vs H Q E h => ?_) (fun cdv A outer s H vs Q E hr h => ?_)
  · obtain ⟨a, b, c, rfl, _⟩ := h; rfl
  have hu := hu_of hr
  refine ⟨_, (C8.pss_cut (ps_par3 (i := 3) (j := 4) (l := 5) (by rfl) sc_firstErrors.nd rfl rfl rfl (by decide) (by decide) (by decide) rfl rfl rfl (pa_cons (pe_ek ES.e_BadText hr (by decide) rfl (pa_cons (pv 0) (pa_cons (pv 1) pa_nil))) (pa_cons (pe_ek ES.e_BadText hr (by decide) rfl (pa_cons (pv 1) (pa_cons (pv 0) pa_nil))) (pa_cons (pe_ek ES.e_BadNumber hr (by decide) rfl (pa_cons (pv 0) (pa_cons (pv 1) pa_nil))) pa_nil))) (by rfl))
      (C8.pss_cut (ps_asg (pe_tup (pa_cons (pe_ek ES.e_TooMany hr (by decide) rfl (pa_cons (pv 0) (pa_cons (pv 1) (pa_cons (pv 2) pa_nil)))) (pa_cons (pe_ek ES.e_BadWord hr (by decide) rfl (pa_cons (pv 0) pa_nil)) (pa_cons (pe_ek ES.e_BadStep hr (by decide) rfl (pa_cons (pv 0) pa_nil)) (pa_cons (pe_ek ES.e_TooHeavy hr (by decide) rfl (pa_cons (pv 0) pa_nil)) pa_nil))))) (pg_tup (by rfl) (pgs_cons (pg_name (i := 6) sc_firstErrors.nd rfl (Or.inl rfl)) (pgs_cons (pg_name (i := 7) sc_firstErrors.nd rfl (Or.inl rfl)) (pgs_cons (pg_name (i := 8) sc_firstErrors.nd rfl (Or.inl rfl)) (pgs_cons (pg_name (i := 9) sc_firstErrors.nd rfl (Or.inl rfl)) pgs_nil))))))
      (C8.pss_cut (ps_set (i := 10) sc_firstErrors.nd rfl (Or.inl rfl) (pe_lst (pa_cons (pe_tup (pa_cons pe_int (pa_cons (pv 3) (pa_cons (pe_lst (pa_cons (pe_xa (pv 3)) (pa_cons (pe_xa (pv 3)) pa_nil))) (pa_cons (pe_lst (pa_cons (pv 0) (pa_cons (pv 1) pa_nil))) pa_nil))))) (pa_cons (pe_tup (pa_cons pe_int (pa_cons (pv 4) (pa_cons (pe_lst (pa_cons (pe_xa (pv 4)) (pa_cons (pe_xa (pv 4)) pa_nil))) (pa_cons (pe_lst (pa_cons (pv 1) (pa_cons (pv 0) pa_nil))) pa_nil))))) pa_nil))))
      (C8.pss_cut (ps_set (i := 10) sc_firstErrors.nd rfl (Or.inl rfl) (pe_op op_cat (pv 10) (pe_lst (pa_cons (pe_tup (pa_cons pe_int (pa_cons (pv 7) (pa_cons (pe_lst (pa_cons (pe_xa (pv 7)) pa_nil)) (pa_cons (pe_lst (pa_cons (pv 0) pa_nil)) pa_nil))))) (pa_cons (pe_tup (pa_cons pe_int (pa_cons (pv 5) (pa_cons (pe_lst (pa_cons (pe_xa (pv 5)) (pa_cons (pe_xa (pv 5)) pa_nil))) (pa_cons (pe_lst (pa_cons (pv 0) (pa_cons (pv 1) pa_nil))) pa_nil))))) pa_nil)))))
      (C8.pss_cut (ps_set (i := 10) sc_firstErrors.nd rfl (Or.inl rfl) (pe_op op_cat (pv 10) (pe_lst (pa_cons (pe_tup (pa_cons pe_int (pa_cons (pv 8) (pa_cons (pe_lst (pa_cons (pe_xa (pv 8)) pa_nil)) (pa_cons (pe_lst (pa_cons (pv 0) pa_nil)) pa_nil))))) (pa_cons (pe_tup (pa_cons pe_int (pa_cons (pv 6) (pa_cons (pe_lst (pa_cons (pe_xa (pv 6)) (pa_cons (pe_xa (pv 6)) (pa_cons (pe_xa (pv 6)) pa_nil)))) (pa_cons (pe_lst (pa_cons (pv 0) (pa_cons (pv 1) (pa_cons (pv 2) pa_nil)))) pa_nil))))) pa_nil)))))
      (C8.pss_cut (ps_set (i := 10) sc_firstErrors.nd rfl (Or.inl rfl) (pe_op op_cat (pv 10) (pe_lst (pa_cons (pe_tup (pa_cons pe_int (pa_cons (pv 9) (pa_cons (pe_lst (pa_cons (pe_xa (pv 9)) pa_nil)) (pa_cons (pe_lst (pa_cons (pv 0) pa_nil)) pa_nil))))) pa_nil))))
      (C8.pss_cut (ps_asg (pe_tup (pa_cons (pe_ek ES.e_Refused hr (by decide) rfl (pa_cons (pv 0) pa_nil)) (pa_cons (pe_ek ES.e_NoTongue hr (by decide) rfl (pa_cons (pv 0) pa_nil)) (pa_cons (pe_ek ES.e_BadName hr (by decide) rfl (pa_cons (pv 0) pa_nil)) (pa_cons (pe_ek ES.e_TakenName hr (by decide) rfl (pa_cons (pv 0) pa_nil)) pa_nil))))) (pg_tup (by rfl) (pgs_cons (pg_name (i := 3) sc_firstErrors.nd rfl (Or.inl rfl)) (pgs_cons (pg_name (i := 4) sc_firstErrors.nd rfl (Or.inl rfl)) (pgs_cons (pg_name (i := 5) sc_firstErrors.nd rfl (Or.inl rfl)) (pgs_cons (pg_name (i := 11) sc_firstErrors.nd rfl (Or.inl rfl)) pgs_nil))))))
      (C8.pss_cut (ps_set (i := 10) sc_firstErrors.nd rfl (Or.inl rfl) (pe_op op_cat (pv 10) (pe_lst (pa_cons (pe_tup (pa_cons pe_int (pa_cons (pv 3) (pa_cons (pe_lst (pa_cons (pe_xa (pv 3)) pa_nil)) (pa_cons (pe_lst (pa_cons (pv 0) pa_nil)) pa_nil))))) (pa_cons (pe_tup (pa_cons pe_int (pa_cons (pv 4) (pa_cons (pe_lst (pa_cons (pe_xa (pv 4)) pa_nil)) (pa_cons (pe_lst (pa_cons (pv 0) pa_nil)) pa_nil))))) (pa_cons (pe_tup (pa_cons pe_int (pa_cons (pv 5) (pa_cons (pe_lst (pa_cons (pe_xa (pv 5)) pa_nil)) (pa_cons (pe_lst (pa_cons (pv 0) pa_nil)) pa_nil))))) pa_nil))))))
      (pss_one (ps_ret (pe_op op_cat (pv 10) (pe_lst (pa_cons (pe_tup (pa_cons pe_int (pa_cons (pv 11) (pa_cons (pe_lst (pa_cons (pe_xa (pv 11)) pa_nil)) (pa_cons (pe_lst (pa_cons (pv 0) pa_nil)) pa_nil))))) pa_nil))))))))))))), ?_⟩

  obtain ⟨a, b, c, rfl, q⟩ := h
  have sT : Same H H := fun _ _ z => z
  refine ⟨fun σ2 H2 => ∃ y1 y2 y3 : Addr, σ2 = [some a, some b, some c, some (.ref y1), some (.ref y2), some (.ref y3), none, none, none, none, none, none] ∧ Same H H2 ∧ ExAt H2 y1 (cs0.getD 0 0) ((["line", "column"] : List Str).zip [a, b]).reverse ∧ ExAt H2 y2 (cs0.getD 0 0) ((["line", "column"] : List Str).zip [b, a]).reverse ∧ ExAt H2 y3 (cs0.getD 2 0) ((["what", "number"] : List Str).zip [a, b]).reverse, ?_, ?_⟩
  · skip
    refine ⟨_, rfl, _, rfl, rfl, fun e1 H1 _ s1 _ x1 => ?_⟩
    replace sT := Same.trans sT s1
    clear s1
    refine ⟨_, rfl, _, rfl, rfl, fun e2 H2 _ s2 _ x2 => ?_⟩
    replace x1 := x1.same s2
    replace sT := Same.trans sT s2
    clear s2
    refine ⟨_, rfl, _, rfl, rfl, fun e3 H3 _ s3 _ x3 => ?_⟩
    replace x1 := x1.same s3
    replace x2 := x2.same s3
    replace sT := Same.trans sT s3
    clear s3
    refine ⟨_, _, _, rfl, ?_⟩
    exact ⟨_, _, _, rfl, sT, x1, x2, x3⟩
  rintro σ2 H4 ⟨e5, e6, e7, rfl, sT2, x5, x6, x7⟩
  clear sT
  have sT := sT2; clear sT2
  refine ⟨fun σ2 H2 => ∃ y5 y6 y7 y8 y9 y10 y11 : Addr, σ2 = [some a, some b, some c, some (.ref y5), some (.ref y6), some (.ref y7), some (.ref y8), some (.ref y9), some (.ref y10), some (.ref y11), none, none] ∧ Same H H2 ∧ ExAt H2 y5 (cs0.getD 0 0) ((["line", "column"] : List Str).zip [a, b]).reverse ∧ ExAt H2 y6 (cs0.getD 0 0) ((["line", "column"] : List Str).zip [b, a]).reverse ∧ ExAt H2 y7 (cs0.getD 2 0) ((["what", "number"] : List Str).zip [a, b]).reverse ∧ ExAt H2 y8 (cs0.getD 4 0) ((["what", "many", "limit"] : List Str).zip [a, b, c]).reverse ∧ ExAt H2 y9 (cs0.getD 1 0) ((["what"] : List Str).zip [a]).reverse ∧ ExAt H2 y10 (cs0.getD 3 0) ((["number"] : List Str).zip [a]).reverse ∧ ExAt H2 y11 (cs0.getD 5 0) ((["weight"] : List Str).zip [a]).reverse, ?_, ?_⟩
  · skip
    refine ⟨_, rfl, _, rfl, _, rfl, rfl, fun e8 H8 _ s8 _ x8 => ?_⟩
    replace x5 := x5.same s8
    replace x6 := x6.same s8
    replace x7 := x7.same s8
    replace sT := Same.trans sT s8
    clear s8
    refine ⟨_, rfl, rfl, fun e9 H9 _ s9 _ x9 => ?_⟩
    replace x5 := x5.same s9
    replace x6 := x6.same s9
    replace x7 := x7.same s9
    replace x8 := x8.same s9
    replace sT := Same.trans sT s9
    clear s9
    refine ⟨_, rfl, rfl, fun e10 H10 _ s10 _ x10 => ?_⟩
    replace x5 := x5.same s10
    replace x6 := x6.same s10
    replace x7 := x7.same s10
    replace x8 := x8.same s10
    replace x9 := x9.same s10
    replace sT := Same.trans sT s10
    clear s10
    refine ⟨_, rfl, rfl, fun e11 H11 _ s11 _ x11 => ?_⟩
    replace x5 := x5.same s11
    replace x6 := x6.same s11
    replace x7 := x7.same s11
    replace x8 := x8.same s11
    replace x9 := x9.same s11
    replace x10 := x10.same s11
    replace sT := Same.trans sT s11
    clear s11
    refine ⟨szB (by show 4 ≤ 1000000; decide), fun p12 hp12 => ?_⟩
    have q12 : Same _ _ := same_new (fun _ _ z => z) hp12 (.tup [V.ref e8, V.ref e9, V.ref e10, V.ref e11])
    replace x5 := x5.same q12
    replace x6 := x6.same q12
    replace x7 := x7.same q12
    replace x8 := x8.same q12
    replace x9 := x9.same q12
    replace x10 := x10.same q12
    replace x11 := x11.same q12
    replace sT := Same.trans sT q12
    refine ⟨p12, _, rfl, SqT.of upd_same, rfl, _, _, rfl, _, _, rfl, _, _, rfl, _, _, rfl, rfl, ?_⟩
    exact ⟨_, _, _, _, _, _, _, rfl, sT, x5, x6, x7, x8, x9, x10, x11⟩
  rintro σ2 H13 ⟨e14, e15, e16, e17, e18, e19, e20, rfl, sT2, x14, x15, x16, x17, x18, x19, x20⟩
  clear x5 x6 x7 sT
  have sT := sT2; clear sT2
  refine ⟨fun σ2 H2 => ∃ y14 y15 y16 y17 y18 y19 y20 yf : Addr, σ2 = [some a, some b, some c, some (.ref y14), some (.ref y15), some (.ref y16), some (.ref y17), some (.ref y18), some (.ref y19), some (.ref y20), some (.ref yf), none] ∧ Same H H2 ∧ ExAt H2 y14 (cs0.getD 0 0) ((["line", "column"] : List Str).zip [a, b]).reverse ∧ ExAt H2 y15 (cs0.getD 0 0) ((["line", "column"] : List Str).zip [b, a]).reverse ∧ ExAt H2 y16 (cs0.getD 2 0) ((["what", "number"] : List Str).zip [a, b]).reverse ∧ ExAt H2 y17 (cs0.getD 4 0) ((["what", "many", "limit"] : List Str).zip [a, b, c]).reverse ∧ ExAt H2 y18 (cs0.getD 1 0) ((["what"] : List Str).zip [a]).reverse ∧ ExAt H2 y19 (cs0.getD 3 0) ((["number"] : List Str).zip [a]).reverse ∧ ExAt H2 y20 (cs0.getD 5 0) ((["weight"] : List Str).zip [a]).reverse ∧ RowsAt cs0 (fun x => x = a ∨ x = b ∨ x = c) H2 yf 2, ?_, ?_⟩
  · skip
    refine ⟨_, rfl, _, rfl, e14, _, _, _, rfl, (ES.up 0 (by decide)).2.2.2, ES.e_BadText.no "line" (by simp), x14, rfl, _, rfl, e14, _, _, _, rfl, (ES.up 0 (by decide)).2.2.2, ES.e_BadText.no "column" (by simp), x14, rfl, szB (by show 2 ≤ 1000000; decide), fun u21 hu21 => ?_⟩
    refine ⟨_, rfl, _, rfl, szB (by show 2 ≤ 1000000; decide), fun d21 hd21 => ?_⟩
    refine ⟨szB (by show 4 ≤ 1000000; decide), fun t21 ht21 => ?_⟩
    obtain ⟨G21, hG21⟩ : ∃ G, G = upd (upd (upd H13 u21 (.lst [a, b])) d21 (.lst [a, b])) t21 (.tup [.int 0, .ref e14, .ref u21, .ref d21]) := ⟨_, rfl⟩
    have z21 : Same H13 G21 ∧ RowAt cs0 (fun x => x = a ∨ x = b ∨ x = c) G21 (.ref t21) := by rw [hG21]; exact rowAt_of (VS := fun x => x = a ∨ x = b ∨ x = c) (n := 0) (by decide) x14 hu21 hd21 ht21 (by intro x h; simp only [List.mem_cons, List.not_mem_nil, or_false] at h; rcases h with h | h; exact (.inl h); exact (.inr (.inl h))) (by show 2 ≤ 3; decide)
    rw [← hG21]
    clear hG21
    obtain ⟨s21, r21⟩ := z21
    replace x14 := x14.same s21
    replace x15 := x15.same s21
    replace x16 := x16.same s21
    replace x17 := x17.same s21
    replace x18 := x18.same s21
    replace x19 := x19.same s21
    replace x20 := x20.same s21
    replace sT := Same.trans sT s21
    clear s21
    refine ⟨_, rfl, _, rfl, e15, _, _, _, rfl, (ES.up 0 (by decide)).2.2.2, ES.e_BadText.no "line" (by simp), x15, rfl, _, rfl, e15, _, _, _, rfl, (ES.up 0 (by decide)).2.2.2, ES.e_BadText.no "column" (by simp), x15, rfl, szB (by show 2 ≤ 1000000; decide), fun u22 hu22 => ?_⟩
    refine ⟨_, rfl, _, rfl, szB (by show 2 ≤ 1000000; decide), fun d22 hd22 => ?_⟩
    refine ⟨szB (by show 4 ≤ 1000000; decide), fun t22 ht22 => ?_⟩
    obtain ⟨G22, hG22⟩ : ∃ G, G = upd (upd (upd G21 u22 (.lst [b, a])) d22 (.lst [b, a])) t22 (.tup [.int 0, .ref e15, .ref u22, .ref d22]) := ⟨_, rfl⟩
    have z22 : Same G21 G22 ∧ RowAt cs0 (fun x => x = a ∨ x = b ∨ x = c) G22 (.ref t22) := by rw [hG22]; exact rowAt_of (VS := fun x => x = a ∨ x = b ∨ x = c) (n := 0) (by decide) x15 hu22 hd22 ht22 (by intro x h; simp only [List.mem_cons, List.not_mem_nil, or_false] at h; rcases h with h | h; exact (.inr (.inl h)); exact (.inl h)) (by show 2 ≤ 3; decide)
    rw [← hG22]
    clear hG22
    obtain ⟨s22, r22⟩ := z22
    replace x14 := x14.same s22
    replace x15 := x15.same s22
    replace x16 := x16.same s22
    replace x17 := x17.same s22
    replace x18 := x18.same s22
    replace x19 := x19.same s22
    replace x20 := x20.same s22
    replace r21 := r21.ks (Ks.of s22)
    replace sT := Same.trans sT s22
    clear s22
    refine ⟨szB (by show 2 ≤ 1000000; decide), fun p23 hp23 => ?_⟩
    have w23 := RowsAt.new hp23 (xs := [.ref t21, .ref t22]) (by intro v hv; simp only [List.mem_cons, List.not_mem_nil, or_false] at hv; rcases hv with rfl | rfl; exact r21; exact r22)
    have q23 : Same _ _ := same_new (fun _ _ z => z) hp23 (.lst [V.ref t21, V.ref t22])
    replace x14 := x14.same q23
    replace x15 := x15.same q23
    replace x16 := x16.same q23
    replace x17 := x17.same q23
    replace x18 := x18.same q23
    replace x19 := x19.same q23
    replace x20 := x20.same q23
    replace sT := Same.trans sT q23
    obtain ⟨G23, hG23⟩ : ∃ G, G = upd G22 p23 (.lst [V.ref t21, V.ref t22]) := ⟨_, rfl⟩
    rw [← hG23] at w23 sT x14 x15 x16 x17 x18 x19 x20
    rw [← hG23]
    clear q23 hG23
    have R := w23
    exact ⟨_, _, _, _, _, _, _, _, rfl, sT, x14, x15, x16, x17, x18, x19, x20, R⟩
  rintro σ2 H24 ⟨e25, e26, e27, e28, e29, e30, e31, yf, rfl, sT2, x25, x26, x27, x28, x29, x30, x31, R2⟩
  clear x14 x15 x16 x17 x18 x19 x20 sT
  have sT := sT2; clear sT2
  have R := R2; clear R2
  refine ⟨fun σ2 H2 => ∃ y25 y26 y27 y28 y29 y30 y31 yf : Addr, σ2 = [some a, some b, some c, some (.ref y25), some (.ref y26), some (.ref y27), some (.ref y28), some (.ref y29), some (.ref y30), some (.ref y31), some (.ref yf), none] ∧ Same H H2 ∧ ExAt H2 y25 (cs0.getD 0 0) ((["line", "column"] : List Str).zip [a, b]).reverse ∧ ExAt H2 y26 (cs0.getD 0 0) ((["line", "column"] : List Str).zip [b, a]).reverse ∧ ExAt H2 y27 (cs0.getD 2 0) ((["what", "number"] : List Str).zip [a, b]).reverse ∧ ExAt H2 y28 (cs0.getD 4 0) ((["what", "many", "limit"] : List Str).zip [a, b, c]).reverse ∧ ExAt H2 y29 (cs0.getD 1 0) ((["what"] : List Str).zip [a]).reverse ∧ ExAt H2 y30 (cs0.getD 3 0) ((["number"] : List Str).zip [a]).reverse ∧ ExAt H2 y31 (cs0.getD 5 0) ((["weight"] : List Str).zip [a]).reverse ∧ RowsAt cs0 (fun x => x = a ∨ x = b ∨ x = c) H2 yf 4, ?_, ?_⟩
  · skip
    refine ⟨_, rfl, ?_⟩
    refine ⟨_, rfl, _, rfl, e29, _, _, _, rfl, (ES.up 1 (by decide)).2.2.2, ES.e_BadWord.no "what" (by simp), x29, rfl, szB (by show 1 ≤ 1000000; decide), fun u32 hu32 => ?_⟩
    refine ⟨_, rfl, szB (by show 1 ≤ 1000000; decide), fun d32 hd32 => ?_⟩
    refine ⟨szB (by show 4 ≤ 1000000; decide), fun t32 ht32 => ?_⟩
    obtain ⟨G32, hG32⟩ : ∃ G, G = upd (upd (upd H24 u32 (.lst [a])) d32 (.lst [a])) t32 (.tup [.int 1, .ref e29, .ref u32, .ref d32]) := ⟨_, rfl⟩
    have z32 : Same H24 G32 ∧ RowAt cs0 (fun x => x = a ∨ x = b ∨ x = c) G32 (.ref t32) := by rw [hG32]; exact rowAt_of (VS := fun x => x = a ∨ x = b ∨ x = c) (n := 1) (by decide) x29 hu32 hd32 ht32 (by intro x h; simp only [List.mem_cons, List.not_mem_nil, or_false] at h; exact (.inl h)) (by show 1 ≤ 3; decide)
    rw [← hG32]
    clear hG32
    obtain ⟨s32, r32⟩ := z32
    replace x25 := x25.same s32
    replace x26 := x26.same s32
    replace x27 := x27.same s32
    replace x28 := x28.same s32
    replace x29 := x29.same s32
    replace x30 := x30.same s32
    replace x31 := x31.same s32
    replace R := R.ks (Ks.of s32)
    replace sT := Same.trans sT s32
    clear s32
    refine ⟨_, rfl, _, rfl, e27, _, _, _, rfl, (ES.up 2 (by decide)).2.2.2, ES.e_BadNumber.no "what" (by simp), x27, rfl, _, rfl, e27, _, _, _, rfl, (ES.up 2 (by decide)).2.2.2, ES.e_BadNumber.no "number" (by simp), x27, rfl, szB (by show 2 ≤ 1000000; decide), fun u33 hu33 => ?_⟩
    refine ⟨_, rfl, _, rfl, szB (by show 2 ≤ 1000000; decide), fun d33 hd33 => ?_⟩
    refine ⟨szB (by show 4 ≤ 1000000; decide), fun t33 ht33 => ?_⟩
    obtain ⟨G33, hG33⟩ : ∃ G, G = upd (upd (upd G32 u33 (.lst [a, b])) d33 (.lst [a, b])) t33 (.tup [.int 2, .ref e27, .ref u33, .ref d33]) := ⟨_, rfl⟩
    have z33 : Same G32 G33 ∧ RowAt cs0 (fun x => x = a ∨ x = b ∨ x = c) G33 (.ref t33) := by rw [hG33]; exact rowAt_of (VS := fun x => x = a ∨ x = b ∨ x = c) (n := 2) (by decide) x27 hu33 hd33 ht33 (by intro x h; simp only [List.mem_cons, List.not_mem_nil, or_false] at h; rcases h with h | h; exact (.inl h); exact (.inr (.inl h))) (by show 2 ≤ 3; decide)
    rw [← hG33]
    clear hG33
    obtain ⟨s33, r33⟩ := z33
    replace x25 := x25.same s33
    replace x26 := x26.same s33
    replace x27 := x27.same s33
    replace x28 := x28.same s33
    replace x29 := x29.same s33
    replace x30 := x30.same s33
    replace x31 := x31.same s33
    replace r32 := r32.ks (Ks.of s33)
    replace R := R.ks (Ks.of s33)
    replace sT := Same.trans sT s33
    clear s33
    refine ⟨szB (by show 2 ≤ 1000000; decide), fun p34 hp34 => ?_⟩
    have w34 := RowsAt.new hp34 (xs := [.ref t32, .ref t33]) (by intro v hv; simp only [List.mem_cons, List.not_mem_nil, or_false] at hv; rcases hv with rfl | rfl; exact r32; exact r33)
    have q34 : Same _ _ := same_new (fun _ _ z => z) hp34 (.lst [V.ref t32, V.ref t33])
    replace x25 := x25.same q34
    replace x26 := x26.same q34
    replace x27 := x27.same q34
    replace x28 := x28.same q34
    replace x29 := x29.same q34
    replace x30 := x30.same q34
    replace x31 := x31.same q34
    replace R := R.ks (Ks.of q34)
    replace sT := Same.trans sT q34
    obtain ⟨G34, hG34⟩ : ∃ G, G = upd G33 p34 (.lst [V.ref t32, V.ref t33]) := ⟨_, rfl⟩
    rw [← hG34] at w34 sT x25 x26 x27 x28 x29 x30 x31 R
    rw [← hG34]
    clear q34 hG34
    refine cat_step R w34 (by show 4 ≤ 1000; decide) fun p35 H35 s35 R => ?_
    replace x25 := x25.same s35
    replace x26 := x26.same s35
    replace x27 := x27.same s35
    replace x28 := x28.same s35
    replace x29 := x29.same s35
    replace x30 := x30.same s35
    replace x31 := x31.same s35
    replace sT := Same.trans sT s35
    clear s35
    exact ⟨_, _, _, _, _, _, _, _, rfl, sT, x25, x26, x27, x28, x29, x30, x31, R⟩
  rintro σ2 H36 ⟨e37, e38, e39, e40, e41, e42, e43, yf, rfl, sT2, x37, x38, x39, x40, x41, x42, x43, R2⟩
  clear x25 x26 x27 x28 x29 x30 x31 R sT
  have sT := sT2; clear sT2
  have R := R2; clear R2
  refine ⟨fun σ2 H2 => ∃ y37 y38 y39 y40 y41 y42 y43 yf : Addr, σ2 = [some a, some b, some c, some (.ref y37), some (.ref y38), some (.ref y39), some (.ref y40), some (.ref y41), some (.ref y42), some (.ref y43), some (.ref yf), none] ∧ Same H H2 ∧ ExAt H2 y37 (cs0.getD 0 0) ((["line", "column"] : List Str).zip [a, b]).reverse ∧ ExAt H2 y38 (cs0.getD 0 0) ((["line", "column"] : List Str).zip [b, a]).reverse ∧ ExAt H2 y39 (cs0.getD 2 0) ((["what", "number"] : List Str).zip [a, b]).reverse ∧ ExAt H2 y40 (cs0.getD 4 0) ((["what", "many", "limit"] : List Str).zip [a, b, c]).reverse ∧ ExAt H2 y41 (cs0.getD 1 0) ((["what"] : List Str).zip [a]).reverse ∧ ExAt H2 y42 (cs0.getD 3 0) ((["number"] : List Str).zip [a]).reverse ∧ ExAt H2 y43 (cs0.getD 5 0) ((["weight"] : List Str).zip [a]).reverse ∧ RowsAt cs0 (fun x => x = a ∨ x = b ∨ x = c) H2 yf 6, ?_, ?_⟩
  · skip
    refine ⟨_, rfl, ?_⟩
    refine ⟨_, rfl, _, rfl, e42, _, _, _, rfl, (ES.up 3 (by decide)).2.2.2, ES.e_BadStep.no "number" (by simp), x42, rfl, szB (by show 1 ≤ 1000000; decide), fun u44 hu44 => ?_⟩
    refine ⟨_, rfl, szB (by show 1 ≤ 1000000; decide), fun d44 hd44 => ?_⟩
    refine ⟨szB (by show 4 ≤ 1000000; decide), fun t44 ht44 => ?_⟩
    obtain ⟨G44, hG44⟩ : ∃ G, G = upd (upd (upd H36 u44 (.lst [a])) d44 (.lst [a])) t44 (.tup [.int 3, .ref e42, .ref u44, .ref d44]) := ⟨_, rfl⟩
    have z44 : Same H36 G44 ∧ RowAt cs0 (fun x => x = a ∨ x = b ∨ x = c) G44 (.ref t44) := by rw [hG44]; exact rowAt_of (VS := fun x => x = a ∨ x = b ∨ x = c) (n := 3) (by decide) x42 hu44 hd44 ht44 (by intro x h; simp only [List.mem_cons, List.not_mem_nil, or_false] at h; exact (.inl h)) (by show 1 ≤ 3; decide)
    rw [← hG44]
    clear hG44
    obtain ⟨s44, r44⟩ := z44
    replace x37 := x37.same s44
    replace x38 := x38.same s44
    replace x39 := x39.same s44
    replace x40 := x40.same s44
    replace x41 := x41.same s44
    replace x42 := x42.same s44
    replace x43 := x43.same s44
    replace R := R.ks (Ks.of s44)
    replace sT := Same.trans sT s44
    clear s44
    refine ⟨_, rfl, _, rfl, e40, _, _, _, rfl, (ES.up 4 (by decide)).2.2.2, ES.e_TooMany.no "what" (by simp), x40, rfl, _, rfl, e40, _, _, _, rfl, (ES.up 4 (by decide)).2.2.2, ES.e_TooMany.no "many" (by simp), x40, rfl, _, rfl, e40, _, _, _, rfl, (ES.up 4 (by decide)).2.2.2, ES.e_TooMany.no "limit" (by simp), x40, rfl, szB (by show 3 ≤ 1000000; decide), fun u45 hu45 => ?_⟩
    refine ⟨_, rfl, _, rfl, _, rfl, szB (by show 3 ≤ 1000000; decide), fun d45 hd45 => ?_⟩
    refine ⟨szB (by show 4 ≤ 1000000; decide), fun t45 ht45 => ?_⟩
    obtain ⟨G45, hG45⟩ : ∃ G, G = upd (upd (upd G44 u45 (.lst [a, b, c])) d45 (.lst [a, b, c])) t45 (.tup [.int 4, .ref e40, .ref u45, .ref d45]) := ⟨_, rfl⟩
    have z45 : Same G44 G45 ∧ RowAt cs0 (fun x => x = a ∨ x = b ∨ x = c) G45 (.ref t45) := by rw [hG45]; exact rowAt_of (VS := fun x => x = a ∨ x = b ∨ x = c) (n := 4) (by decide) x40 hu45 hd45 ht45 (by intro x h; simp only [List.mem_cons, List.not_mem_nil, or_false] at h; rcases h with h | h | h; exact (.inl h); exact (.inr (.inl h)); exact (.inr (.inr h))) (by show 3 ≤ 3; decide)
    rw [← hG45]
    clear hG45
    obtain ⟨s45, r45⟩ := z45
    replace x37 := x37.same s45
    replace x38 := x38.same s45
    replace x39 := x39.same s45
    replace x40 := x40.same s45
    replace x41 := x41.same s45
    replace x42 := x42.same s45
    replace x43 := x43.same s45
    replace r44 := r44.ks (Ks.of s45)
    replace R := R.ks (Ks.of s45)
    replace sT := Same.trans sT s45
    clear s45
    refine ⟨szB (by show 2 ≤ 1000000; decide), fun p46 hp46 => ?_⟩
    have w46 := RowsAt.new hp46 (xs := [.ref t44, .ref t45]) (by intro v hv; simp only [List.mem_cons, List.not_mem_nil, or_false] at hv; rcases hv with rfl | rfl; exact r44; exact r45)
    have q46 : Same _ _ := same_new (fun _ _ z => z) hp46 (.lst [V.ref t44, V.ref t45])
    replace x37 := x37.same q46
    replace x38 := x38.same q46
    replace x39 := x39.same q46
    replace x40 := x40.same q46
    replace x41 := x41.same q46
    replace x42 := x42.same q46
    replace x43 := x43.same q46
    replace R := R.ks (Ks.of q46)
    replace sT := Same.trans sT q46
    obtain ⟨G46, hG46⟩ : ∃ G, G = upd G45 p46 (.lst [V.ref t44, V.ref t45]) := ⟨_, rfl⟩
    rw [← hG46] at w46 sT x37 x38 x39 x40 x41 x42 x43 R
    rw [← hG46]
    clear q46 hG46
    refine cat_step R w46 (by show 6 ≤ 1000; decide) fun p47 H47 s47 R => ?_
    replace x37 := x37.same s47
    replace x38 := x38.same s47
    replace x39 := x39.same s47
    replace x40 := x40.same s47
    replace x41 := x41.same s47
    replace x42 := x42.same s47
    replace x43 := x43.same s47
    replace sT := Same.trans sT s47
    clear s47
    exact ⟨_, _, _, _, _, _, _, _, rfl, sT, x37, x38, x39, x40, x41, x42, x43, R⟩
  rintro σ2 H48 ⟨e49, e50, e51, e52, e53, e54, e55, yf, rfl, sT2, x49, x50, x51, x52, x53, x54, x55, R2⟩
  clear x37 x38 x39 x40 x41 x42 x43 R sT
  have sT := sT2; clear sT2
  have R := R2; clear R2
  refine ⟨fun σ2 H2 => ∃ y49 y50 y51 y52 y53 y54 y55 yf : Addr, σ2 = [some a, some b, some c, some (.ref y49), some (.ref y50), some (.ref y51), some (.ref y52), some (.ref y53), some (.ref y54), some (.ref y55), some (.ref yf), none] ∧ Same H H2 ∧ ExAt H2 y49 (cs0.getD 0 0) ((["line", "column"] : List Str).zip [a, b]).reverse ∧ ExAt H2 y50 (cs0.getD 0 0) ((["line", "column"] : List Str).zip [b, a]).reverse ∧ ExAt H2 y51 (cs0.getD 2 0) ((["what", "number"] : List Str).zip [a, b]).reverse ∧ ExAt H2 y52 (cs0.getD 4 0) ((["what", "many", "limit"] : List Str).zip [a, b, c]).reverse ∧ ExAt H2 y53 (cs0.getD 1 0) ((["what"] : List Str).zip [a]).reverse ∧ ExAt H2 y54 (cs0.getD 3 0) ((["number"] : List Str).zip [a]).reverse ∧ ExAt H2 y55 (cs0.getD 5 0) ((["weight"] : List Str).zip [a]).reverse ∧ RowsAt cs0 (fun x => x = a ∨ x = b ∨ x = c) H2 yf 7, ?_, ?_⟩
  · skip
    refine ⟨_, rfl, ?_⟩
    refine ⟨_, rfl, _, rfl, e55, _, _, _, rfl, (ES.up 5 (by decide)).2.2.2, ES.e_TooHeavy.no "weight" (by simp), x55, rfl, szB (by show 1 ≤ 1000000; decide), fun u56 hu56 => ?_⟩
    refine ⟨_, rfl, szB (by show 1 ≤ 1000000; decide), fun d56 hd56 => ?_⟩
    refine ⟨szB (by show 4 ≤ 1000000; decide), fun t56 ht56 => ?_⟩
    obtain ⟨G56, hG56⟩ : ∃ G, G = upd (upd (upd H48 u56 (.lst [a])) d56 (.lst [a])) t56 (.tup [.int 5, .ref e55, .ref u56, .ref d56]) := ⟨_, rfl⟩
    have z56 : Same H48 G56 ∧ RowAt cs0 (fun x => x = a ∨ x = b ∨ x = c) G56 (.ref t56) := by rw [hG56]; exact rowAt_of (VS := fun x => x = a ∨ x = b ∨ x = c) (n := 5) (by decide) x55 hu56 hd56 ht56 (by intro x h; simp only [List.mem_cons, List.not_mem_nil, or_false] at h; exact (.inl h)) (by show 1 ≤ 3; decide)
    rw [← hG56]
    clear hG56
    obtain ⟨s56, r56⟩ := z56
    replace x49 := x49.same s56
    replace x50 := x50.same s56
    replace x51 := x51.same s56
    replace x52 := x52.same s56
    replace x53 := x53.same s56
    replace x54 := x54.same s56
    replace x55 := x55.same s56
    replace R := R.ks (Ks.of s56)
    replace sT := Same.trans sT s56
    clear s56
    refine ⟨szB (by show 1 ≤ 1000000; decide), fun p57 hp57 => ?_⟩
    have w57 := RowsAt.new hp57 (xs := [.ref t56]) (by intro v hv; simp only [List.mem_cons, List.not_mem_nil, or_false] at hv; rcases hv with rfl; exact r56)
    have q57 : Same _ _ := same_new (fun _ _ z => z) hp57 (.lst [V.ref t56])
    replace x49 := x49.same q57
    replace x50 := x50.same q57
    replace x51 := x51.same q57
    replace x52 := x52.same q57
    replace x53 := x53.same q57
    replace x54 := x54.same q57
    replace x55 := x55.same q57
    replace R := R.ks (Ks.of q57)
    replace sT := Same.trans sT q57
    obtain ⟨G57, hG57⟩ : ∃ G, G = upd G56 p57 (.lst [V.ref t56]) := ⟨_, rfl⟩
    rw [← hG57] at w57 sT x49 x50 x51 x52 x53 x54 x55 R
    rw [← hG57]
    clear q57 hG57
    refine cat_step R w57 (by show 7 ≤ 1000; decide) fun p58 H58 s58 R => ?_
    replace x49 := x49.same s58
    replace x50 := x50.same s58
    replace x51 := x51.same s58
    replace x52 := x52.same s58
    replace x53 := x53.same s58
    replace x54 := x54.same s58
    replace x55 := x55.same s58
    replace sT := Same.trans sT s58
    clear s58
    exact ⟨_, _, _, _, _, _, _, _, rfl, sT, x49, x50, x51, x52, x53, x54, x55, R⟩
  rintro σ2 H59 ⟨e60, e61, e62, e63, e64, e65, e66, yf, rfl, sT2, x60, x61, x62, x63, x64, x65, x66, R2⟩
  clear x49 x50 x51 x52 x53 x54 x55 R sT
  have sT := sT2; clear sT2
  have R := R2; clear R2
  refine ⟨fun σ2 H2 => ∃ y67 y68 y69 y63 y64 y65 y66 yf y70 : Addr, σ2 = [some a, some b, some c, some (.ref y67), some (.ref y68), some (.ref y69), some (.ref y63), some (.ref y64), some (.ref y65), some (.ref y66), some (.ref yf), some (.ref y70)] ∧ Same H H2 ∧ ExAt H2 y67 (cs0.getD 6 0) ((["number"] : List Str).zip [a]).reverse ∧ ExAt H2 y68 (cs0.getD 7 0) ((["number"] : List Str).zip [a]).reverse ∧ ExAt H2 y69 (cs0.getD 8 0) ((["name"] : List Str).zip [a]).reverse ∧ ExAt H2 y63 (cs0.getD 4 0) ((["what", "many", "limit"] : List Str).zip [a, b, c]).reverse ∧ ExAt H2 y64 (cs0.getD 1 0) ((["what"] : List Str).zip [a]).reverse ∧ ExAt H2 y65 (cs0.getD 3 0) ((["number"] : List Str).zip [a]).reverse ∧ ExAt H2 y66 (cs0.getD 5 0) ((["weight"] : List Str).zip [a]).reverse ∧ ExAt H2 y70 (cs0.getD 9 0) ((["name"] : List Str).zip [a]).reverse ∧ RowsAt cs0 (fun x => x = a ∨ x = b ∨ x = c) H2 yf 7, ?_, ?_⟩
  · skip
    refine ⟨_, rfl, rfl, fun e67 H67 _ s67 _ x67 => ?_⟩
    replace x60 := x60.same s67
    replace x61 := x61.same s67
    replace x62 := x62.same s67
    replace x63 := x63.same s67
    replace x64 := x64.same s67
    replace x65 := x65.same s67
    replace x66 := x66.same s67
    replace R := R.ks (Ks.of s67)
    replace sT := Same.trans sT s67
    clear s67
    refine ⟨_, rfl, rfl, fun e68 H68 _ s68 _ x68 => ?_⟩
    replace x60 := x60.same s68
    replace x61 := x61.same s68
    replace x62 := x62.same s68
    replace x63 := x63.same s68
    replace x64 := x64.same s68
    replace x65 := x65.same s68
    replace x66 := x66.same s68
    replace x67 := x67.same s68
    replace R := R.ks (Ks.of s68)
    replace sT := Same.trans sT s68
    clear s68
    refine ⟨_, rfl, rfl, fun e69 H69 _ s69 _ x69 => ?_⟩
    replace x60 := x60.same s69
    replace x61 := x61.same s69
    replace x62 := x62.same s69
    replace x63 := x63.same s69
    replace x64 := x64.same s69
    replace x65 := x65.same s69
    replace x66 := x66.same s69
    replace x67 := x67.same s69
    replace x68 := x68.same s69
    replace R := R.ks (Ks.of s69)
    replace sT := Same.trans sT s69
    clear s69
    refine ⟨_, rfl, rfl, fun e70 H70 _ s70 _ x70 => ?_⟩
    replace x60 := x60.same s70
    replace x61 := x61.same s70
    replace x62 := x62.same s70
    replace x63 := x63.same s70
    replace x64 := x64.same s70
    replace x65 := x65.same s70
    replace x66 := x66.same s70
    replace x67 := x67.same s70
    replace x68 := x68.same s70
    replace x69 := x69.same s70
    replace R := R.ks (Ks.of s70)
    replace sT := Same.trans sT s70
    clear s70
    refine ⟨szB (by show 4 ≤ 1000000; decide), fun p71 hp71 => ?_⟩
    have q71 : Same _ _ := same_new (fun _ _ z => z) hp71 (.tup [V.ref e67, V.ref e68, V.ref e69, V.ref e70])
    replace x60 := x60.same q71
    replace x61 := x61.same q71
    replace x62 := x62.same q71
    replace x63 := x63.same q71
    replace x64 := x64.same q71
    replace x65 := x65.same q71
    replace x66 := x66.same q71
    replace x67 := x67.same q71
    replace x68 := x68.same q71
    replace x69 := x69.same q71
    replace x70 := x70.same q71
    replace R := R.ks (Ks.of q71)
    replace sT := Same.trans sT q71
    refine ⟨p71, _, rfl, SqT.of upd_same, rfl, _, _, rfl, _, _, rfl, _, _, rfl, _, _, rfl, rfl, ?_⟩
    exact ⟨_, _, _, _, _, _, _, _, _, rfl, sT, x67, x68, x69, x63, x64, x65, x66, x70, R⟩
  rintro σ2 H72 ⟨e73, e74, e75, e76, e77, e78, e79, yf, e80, rfl, sT2, x73, x74, x75, x76, x77, x78, x79, x80, R2⟩
  clear x60 x61 x62 x63 x64 x65 x66 R sT
  have sT := sT2; clear sT2
  have R := R2; clear R2
  refine ⟨fun σ2 H2 => ∃ y73 y74 y75 y76 y77 y78 y79 yf y80 : Addr, σ2 = [some a, some b, some c, some (.ref y73), some (.ref y74), some (.ref y75), some (.ref y76), some (.ref y77), some (.ref y78), some (.ref y79), some (.ref yf), some (.ref y80)] ∧ Same H H2 ∧ ExAt H2 y73 (cs0.getD 6 0) ((["number"] : List Str).zip [a]).reverse ∧ ExAt H2 y74 (cs0.getD 7 0) ((["number"] : List Str).zip [a]).reverse ∧ ExAt H2 y75 (cs0.getD 8 0) ((["name"] : List Str).zip [a]).reverse ∧ ExAt H2 y76 (cs0.getD 4 0) ((["what", "many", "limit"] : List Str).zip [a, b, c]).reverse ∧ ExAt H2 y77 (cs0.getD 1 0) ((["what"] : List Str).zip [a]).reverse ∧ ExAt H2 y78 (cs0.getD 3 0) ((["number"] : List Str).zip [a]).reverse ∧ ExAt H2 y79 (cs0.getD 5 0) ((["weight"] : List Str).zip [a]).reverse ∧ ExAt H2 y80 (cs0.getD 9 0) ((["name"] : List Str).zip [a]).reverse ∧ RowsAt cs0 (fun x => x = a ∨ x = b ∨ x = c) H2 yf 10, ?_, ?_⟩
  · skip
    refine ⟨_, rfl, ?_⟩
    refine ⟨_, rfl, _, rfl, e73, _, _, _, rfl, (ES.up 6 (by decide)).2.2.2, ES.e_Refused.no "number" (by simp), x73, rfl, szB (by show 1 ≤ 1000000; decide), fun u81 hu81 => ?_⟩
    refine ⟨_, rfl, szB (by show 1 ≤ 1000000; decide), fun d81 hd81 => ?_⟩
    refine ⟨szB (by show 4 ≤ 1000000; decide), fun t81 ht81 => ?_⟩
    obtain ⟨G81, hG81⟩ : ∃ G, G = upd (upd (upd H72 u81 (.lst [a])) d81 (.lst [a])) t81 (.tup [.int 6, .ref e73, .ref u81, .ref d81]) := ⟨_, rfl⟩
    have z81 : Same H72 G81 ∧ RowAt cs0 (fun x => x = a ∨ x = b ∨ x = c) G81 (.ref t81) := by rw [hG81]; exact rowAt_of (VS := fun x => x = a ∨ x = b ∨ x = c) (n := 6) (by decide) x73 hu81 hd81 ht81 (by intro x h; simp only [List.mem_cons, List.not_mem_nil, or_false] at h; exact (.inl h)) (by show 1 ≤ 3; decide)
    rw [← hG81]
    clear hG81
    obtain ⟨s81, r81⟩ := z81
    replace x73 := x73.same s81
    replace x74 := x74.same s81
    replace x75 := x75.same s81
    replace x76 := x76.same s81
    replace x77 := x77.same s81
    replace x78 := x78.same s81
    replace x79 := x79.same s81
    replace x80 := x80.same s81
    replace R := R.ks (Ks.of s81)
    replace sT := Same.trans sT s81
    clear s81
    refine ⟨_, rfl, _, rfl, e74, _, _, _, rfl, (ES.up 7 (by decide)).2.2.2, ES.e_NoTongue.no "number" (by simp), x74, rfl, szB (by show 1 ≤ 1000000; decide), fun u82 hu82 => ?_⟩
    refine ⟨_, rfl, szB (by show 1 ≤ 1000000; decide), fun d82 hd82 => ?_⟩
    refine ⟨szB (by show 4 ≤ 1000000; decide), fun t82 ht82 => ?_⟩
    obtain ⟨G82, hG82⟩ : ∃ G, G = upd (upd (upd G81 u82 (.lst [a])) d82 (.lst [a])) t82 (.tup [.int 7, .ref e74, .ref u82, .ref d82]) := ⟨_, rfl⟩
    have z82 : Same G81 G82 ∧ RowAt cs0 (fun x => x = a ∨ x = b ∨ x = c) G82 (.ref t82) := by rw [hG82]; exact rowAt_of (VS := fun x => x = a ∨ x = b ∨ x = c) (n := 7) (by decide) x74 hu82 hd82 ht82 (by intro x h; simp only [List.mem_cons, List.not_mem_nil, or_false] at h; exact (.inl h)) (by show 1 ≤ 3; decide)
    rw [← hG82]
    clear hG82
    obtain ⟨s82, r82⟩ := z82
    replace x73 := x73.same s82
    replace x74 := x74.same s82
    replace x75 := x75.same s82
    replace x76 := x76.same s82
    replace x77 := x77.same s82
    replace x78 := x78.same s82
    replace x79 := x79.same s82
    replace x80 := x80.same s82
    replace r81 := r81.ks (Ks.of s82)
    replace R := R.ks (Ks.of s82)
    replace sT := Same.trans sT s82
    clear s82
    refine ⟨_, rfl, _, rfl, e75, _, _, _, rfl, (ES.up 8 (by decide)).2.2.2, ES.e_BadName.no "name" (by simp), x75, rfl, szB (by show 1 ≤ 1000000; decide), fun u83 hu83 => ?_⟩
    refine ⟨_, rfl, szB (by show 1 ≤ 1000000; decide), fun d83 hd83 => ?_⟩
    refine ⟨szB (by show 4 ≤ 1000000; decide), fun t83 ht83 => ?_⟩
    obtain ⟨G83, hG83⟩ : ∃ G, G = upd (upd (upd G82 u83 (.lst [a])) d83 (.lst [a])) t83 (.tup [.int 8, .ref e75, .ref u83, .ref d83]) := ⟨_, rfl⟩
    have z83 : Same G82 G83 ∧ RowAt cs0 (fun x => x = a ∨ x = b ∨ x = c) G83 (.ref t83) := by rw [hG83]; exact rowAt_of (VS := fun x => x = a ∨ x = b ∨ x = c) (n := 8) (by decide) x75 hu83 hd83 ht83 (by intro x h; simp only [List.mem_cons, List.not_mem_nil, or_false] at h; exact (.inl h)) (by show 1 ≤ 3; decide)
    rw [← hG83]
    clear hG83
    obtain ⟨s83, r83⟩ := z83
    replace x73 := x73.same s83
    replace x74 := x74.same s83
    replace x75 := x75.same s83
    replace x76 := x76.same s83
    replace x77 := x77.same s83
    replace x78 := x78.same s83
    replace x79 := x79.same s83
    replace x80 := x80.same s83
    replace r81 := r81.ks (Ks.of s83)
    replace r82 := r82.ks (Ks.of s83)
    replace R := R.ks (Ks.of s83)
    replace sT := Same.trans sT s83
    clear s83
    refine ⟨szB (by show 3 ≤ 1000000; decide), fun p84 hp84 => ?_⟩
    have w84 := RowsAt.new hp84 (xs := [.ref t81, .ref t82, .ref t83]) (by intro v hv; simp only [List.mem_cons, List.not_mem_nil, or_false] at hv; rcases hv with rfl | rfl | rfl; exact r81; exact r82; exact r83)
    have q84 : Same _ _ := same_new (fun _ _ z => z) hp84 (.lst [V.ref t81, V.ref t82, V.ref t83])
    replace x73 := x73.same q84
    replace x74 := x74.same q84
    replace x75 := x75.same q84
    replace x76 := x76.same q84
    replace x77 := x77.same q84
    replace x78 := x78.same q84
    replace x79 := x79.same q84
    replace x80 := x80.same q84
    replace R := R.ks (Ks.of q84)
    replace sT := Same.trans sT q84
    obtain ⟨G84, hG84⟩ : ∃ G, G = upd G83 p84 (.lst [V.ref t81, V.ref t82, V.ref t83]) := ⟨_, rfl⟩
    rw [← hG84] at w84 sT x73 x74 x75 x76 x77 x78 x79 x80 R
    rw [← hG84]
    clear q84 hG84
    refine cat_step R w84 (by show 10 ≤ 1000; decide) fun p85 H85 s85 R => ?_
    replace x73 := x73.same s85
    replace x74 := x74.same s85
    replace x75 := x75.same s85
    replace x76 := x76.same s85
    replace x77 := x77.same s85
    replace x78 := x78.same s85
    replace x79 := x79.same s85
    replace x80 := x80.same s85
    replace sT := Same.trans sT s85
    clear s85
    exact ⟨_, _, _, _, _, _, _, _, _, rfl, sT, x73, x74, x75, x76, x77, x78, x79, x80, R⟩
  rintro σ2 H86 ⟨e87, e88, e89, e90, e91, e92, e93, yf, e94, rfl, sT2, x87, x88, x89, x90, x91, x92, x93, x94, R2⟩
  clear x73 x74 x75 x76 x77 x78 x79 x80 R sT
  have sT := sT2; clear sT2
  have R := R2; clear R2
  refine ⟨_, rfl, ?_⟩
  refine ⟨_, rfl, _, rfl, e94, _, _, _, rfl, (ES.up 9 (by decide)).2.2.2, ES.e_TakenName.no "name" (by simp), x94, rfl, szB (by show 1 ≤ 1000000; decide), fun u95 hu95 => ?_⟩
  refine ⟨_, rfl, szB (by show 1 ≤ 1000000; decide), fun d95 hd95 => ?_⟩
  refine ⟨szB (by show 4 ≤ 1000000; decide), fun t95 ht95 => ?_⟩
  obtain ⟨G95, hG95⟩ : ∃ G, G = upd (upd (upd H86 u95 (.lst [a])) d95 (.lst [a])) t95 (.tup [.int 9, .ref e94, .ref u95, .ref d95]) := ⟨_, rfl⟩
  have z95 : Same H86 G95 ∧ RowAt cs0 (fun x => x = a ∨ x = b ∨ x = c) G95 (.ref t95) := by rw [hG95]; exact rowAt_of (VS := fun x => x = a ∨ x = b ∨ x = c) (n := 9) (by decide) x94 hu95 hd95 ht95 (by intro x h; simp only [List.mem_cons, List.not_mem_nil, or_false] at h; exact (.inl h)) (by show 1 ≤ 3; decide)
  rw [← hG95]
  clear hG95
  obtain ⟨s95, r95⟩ := z95
  replace x87 := x87.same s95
  replace x88 := x88.same s95
  replace x89 := x89.same s95
  replace x90 := x90.same s95
  replace x91 := x91.same s95
  replace x92 := x92.same s95
  replace x93 := x93.same s95
  replace x94 := x94.same s95
  replace R := R.ks (Ks.of s95)
  replace sT := Same.trans sT s95
  clear s95
  refine ⟨szB (by show 1 ≤ 1000000; decide), fun p96 hp96 => ?_⟩
  have w96 := RowsAt.new hp96 (xs := [.ref t95]) (by intro v hv; simp only [List.mem_cons, List.not_mem_nil, or_false] at hv; rcases hv with rfl; exact r95)
  have q96 : Same _ _ := same_new (fun _ _ z => z) hp96 (.lst [V.ref t95])
  replace x87 := x87.same q96
  replace x88 := x88.same q96
  replace x89 := x89.same q96
  replace x90 := x90.same q96
  replace x91 := x91.same q96
  replace x92 := x92.same q96
  replace x93 := x93.same q96
  replace x94 := x94.same q96
  replace R := R.ks (Ks.of q96)
  replace sT := Same.trans sT q96
  obtain ⟨G96, hG96⟩ : ∃ G, G = upd G95 p96 (.lst [V.ref t95]) := ⟨_, rfl⟩
  rw [← hG96] at w96 sT x87 x88 x89 x90 x91 x92 x93 x94 R
  rw [← hG96]
  clear q96 hG96
  refine cat_step R w96 (by show 11 ≤ 1000; decide) fun p97 H97 s97 R => ?_
  replace x87 := x87.same s97
  replace x88 := x88.same s97
  replace x89 := x89.same s97
  replace x90 := x90.same s97
  replace x91 := x91.same s97
  replace x92 := x92.same s97
  replace x93 := x93.same s97
  replace x94 := x94.same s97
  replace sT := Same.trans sT s97
  clear s97
  exact q _ _ sT R

end
end Vf

set_option maxRecDepth 100000
set_option maxHeartbeats 4000000
namespace Vf
open PySem PySem.Spec PyProof.Rows L2 SX
section
variable {P : Program} {w : World} {K : PySem.W.Frag} {mg : Str → Option Value} {base : Heap}
set_option maxHeartbeats 0
theorem ok_otherErrors {f : Addr} {fd : FuncData} (F : C8.Def K mg "_law_other_errors" s_otherErrors f fd) (b : Binds K fd ["_law_a", "_law_b"] []) (T : Tx K w mg) {cs0 : List Addr} {W0 : Addr} (ES : Es P w K mg base cs0 W0)  : C8.Cal P w K mg base 3 "_law_other_errors" (sp_otherErrors cs0) [] := by
  refine C8.cal0 F b .nil sc_otherErrors (fun vs H Q E h => ?_) (fun cdv A outer s H vs Q E hr h => ?_)
  · obtain ⟨a, b, rfl, _⟩ := h; rfl
  have hu := hu_of hr
  refine ⟨_, (C8.pss_cut (ps_asg (pe_tup (pa_cons (pe_ek ES.e_NoFile hr (by decide) rfl (pa_cons (pv 0) pa_nil)) (pa_cons (pe_ek ES.e_NoScript hr (by decide) rfl (pa_cons (pv 0) pa_nil)) (pa_cons (pe_ek ES.e_NoGuard hr (by decide) rfl (pa_cons (pv 0) (pa_cons (pv 1) pa_nil))) (pa_cons (pe_ek ES.e_Broken hr (by decide) rfl (pa_cons (pv 0) (pa_cons (pv 1) pa_nil))) pa_nil))))) (pg_tup (by rfl) (pgs_cons (pg_name (i := 2) sc_otherErrors.nd rfl (Or.inl rfl)) (pgs_cons (pg_name (i := 3) sc_otherErrors.nd rfl (Or.inl rfl)) (pgs_cons (pg_name (i := 4) sc_otherErrors.nd rfl (Or.inl rfl)) (pgs_cons (pg_name (i := 5) sc_otherErrors.nd rfl (Or.inl rfl)) pgs_nil))))))
      (C8.pss_cut (ps_set (i := 6) sc_otherErrors.nd rfl (Or.inl rfl) (pe_lst (pa_cons (pe_tup (pa_cons pe_int (pa_cons (pv 2) (pa_cons (pe_lst (pa_cons (pe_xa (pv 2)) pa_nil)) (pa_cons (pe_lst (pa_cons (pv 0) pa_nil)) pa_nil))))) (pa_cons (pe_tup (pa_cons pe_int (pa_cons (pv 3) (pa_cons (pe_lst (pa_cons (pe_xa (pv 3)) pa_nil)) (pa_cons (pe_lst (pa_cons (pv 0) pa_nil)) pa_nil))))) (pa_cons (pe_tup (pa_cons pe_int (pa_cons (pv 4) (pa_cons (pe_lst (pa_cons (pe_xa (pv 4)) (pa_cons (pe_xa (pv 4)) pa_nil))) (pa_cons (pe_lst (pa_cons (pv 0) (pa_cons (pv 1) pa_nil))) pa_nil))))) pa_nil)))))
      (C8.pss_cut (ps_set (i := 6) sc_otherErrors.nd rfl (Or.inl rfl) (pe_op op_cat (pv 6) (pe_lst (pa_cons (pe_tup (pa_cons pe_int (pa_cons (pv 5) (pa_cons (pe_lst (pa_cons (pe_xa (pv 5)) (pa_cons (pe_xa (pv 5)) pa_nil))) (pa_cons (pe_lst (pa_cons (pv 0) (pa_cons (pv 1) pa_nil))) pa_nil))))) pa_nil))))
      (C8.pss_cut (ps_asg (pe_tup (pa_cons (pe_ek ES.e_BadPlace hr (by decide) rfl (pa_cons (pv 0) pa_nil)) (pa_cons (pe_ek ES.e_NoLine hr (by decide) rfl (pa_cons (pv 0) pa_nil)) (pa_cons (pe_ek ES.e_Touched hr (by decide) rfl (pa_cons (pv 0) pa_nil)) (pa_cons (pe_ek ES.e_AllLines hr (by decide) rfl (pa_cons (pv 0) pa_nil)) pa_nil))))) (pg_tup (by rfl) (pgs_cons (pg_name (i := 2) sc_otherErrors.nd rfl (Or.inl rfl)) (pgs_cons (pg_name (i := 3) sc_otherErrors.nd rfl (Or.inl rfl)) (pgs_cons (pg_name (i := 4) sc_otherErrors.nd rfl (Or.inl rfl)) (pgs_cons (pg_name (i := 5) sc_otherErrors.nd rfl (Or.inl rfl)) pgs_nil))))))
      (C8.pss_cut (ps_set (i := 6) sc_otherErrors.nd rfl (Or.inl rfl) (pe_op op_cat (pv 6) (pe_lst (pa_cons (pe_tup (pa_cons pe_int (pa_cons (pv 2) (pa_cons (pe_lst (pa_cons (pe_xa (pv 2)) pa_nil)) (pa_cons (pe_lst (pa_cons (pv 0) pa_nil)) pa_nil))))) (pa_cons (pe_tup (pa_cons pe_int (pa_cons (pv 3) (pa_cons (pe_lst (pa_cons (pe_xa (pv 3)) pa_nil)) (pa_cons (pe_lst (pa_cons (pv 0) pa_nil)) pa_nil))))) (pa_cons (pe_tup (pa_cons pe_int (pa_cons (pv 4) (pa_cons (pe_lst (pa_cons (pe_xa (pv 4)) pa_nil)) (pa_cons (pe_lst (pa_cons (pv 0) pa_nil)) pa_nil))))) pa_nil))))))
      (C8.pss_cut (ps_set (i := 6) sc_otherErrors.nd rfl (Or.inl rfl) (pe_op op_cat (pv 6) (pe_lst (pa_cons (pe_tup (pa_cons pe_int (pa_cons (pv 5) (pa_cons (pe_lst (pa_cons (pe_xa (pv 5)) pa_nil)) (pa_cons (pe_lst (pa_cons (pv 0) pa_nil)) pa_nil))))) pa_nil))))
      (C8.pss_cut (ps_asg (pe_tup (pa_cons (pe_ek ES.e_NoHidden hr (by decide) rfl (pa_cons (pv 0) pa_nil)) (pa_cons (pe_ek ES.e_Unlike hr (by decide) rfl (pa_cons (pv 0) pa_nil)) (pa_cons (pe_ek ES.e_Conflict hr (by decide) rfl (pa_cons (pv 0) (pa_cons (pv 1) pa_nil))) (pa_cons (pe_ek ES.e_MayConflict hr (by decide) rfl (pa_cons (pv 0) pa_nil)) pa_nil))))) (pg_tup (by rfl) (pgs_cons (pg_name (i := 2) sc_otherErrors.nd rfl (Or.inl rfl)) (pgs_cons (pg_name (i := 3) sc_otherErrors.nd rfl (Or.inl rfl)) (pgs_cons (pg_name (i := 4) sc_otherErrors.nd rfl (Or.inl rfl)) (pgs_cons (pg_name (i := 5) sc_otherErrors.nd rfl (Or.inl rfl)) pgs_nil))))))
      (C8.pss_cut (ps_set (i := 6) sc_otherErrors.nd rfl (Or.inl rfl) (pe_op op_cat (pv 6) (pe_lst (pa_cons (pe_tup (pa_cons pe_int (pa_cons (pv 2) (pa_cons (pe_lst (pa_cons (pe_xa (pv 2)) pa_nil)) (pa_cons (pe_lst (pa_cons (pv 0) pa_nil)) pa_nil))))) (pa_cons (pe_tup (pa_cons pe_int (pa_cons (pv 3) (pa_cons (pe_lst (pa_cons (pe_xa (pv 3)) pa_nil)) (pa_cons (pe_lst (pa_cons (pv 0) pa_nil)) pa_nil))))) pa_nil)))))
      (C8.pss_cut (ps_set (i := 6) sc_otherErrors.nd rfl (Or.inl rfl) (pe_op op_cat (pv 6) (pe_lst (pa_cons (pe_tup (pa_cons pe_int (pa_cons (pv 4) (pa_cons (pe_lst (pa_cons (pe_xa (pv 4)) (pa_cons (pe_xa (pv 4)) pa_nil))) (pa_cons (pe_lst (pa_cons (pv 0) (pa_cons (pv 1) pa_nil))) pa_nil))))) (pa_cons (pe_tup (pa_cons pe_int (pa_cons (pv 5) (pa_cons (pe_lst (pa_cons (pe_xa (pv 5)) pa_nil)) (pa_cons (pe_lst (pa_cons (pv 0) pa_nil)) pa_nil))))) pa_nil)))))
      (C8.pss_cut (ps_set (i := 6) sc_otherErrors.nd rfl (Or.inl rfl) (pe_op op_cat (pv 6) (pe_lst (pa_cons (pe_tup (pa_cons pe_int (pa_cons (pe_ek0 ES.e_NothingNoted rfl) (pa_cons (pe_lst pa_nil) (pa_cons (pe_lst pa_nil) pa_nil))))) (pa_cons (pe_tup (pa_cons pe_int (pa_cons (pe_ek0 ES.e_MixedTongues rfl) (pa_cons (pe_lst pa_nil) (pa_cons (pe_lst pa_nil) pa_nil))))) (pa_cons (pe_tup (pa_cons pe_int (pa_cons (pe_ek0 ES.e_NothingToUndo rfl) (pa_cons (pe_lst pa_nil) (pa_cons (pe_lst pa_nil) pa_nil))))) pa_nil))))))
      (pss_one (ps_ret (pe_op op_cat (pv 6) (pe_lst (pa_cons (pe_tup (pa_cons pe_int (pa_cons (pe_ek0 ES.e_NothingToRedo rfl) (pa_cons (pe_lst pa_nil) (pa_cons (pe_lst pa_nil) pa_nil))))) pa_nil))))))))))))))), ?_⟩

  obtain ⟨a, b, rfl, q⟩ := h
  have sT : Same H H := fun _ _ z => z
  refine ⟨fun σ2 H2 => ∃ y1 y2 y3 y4 : Addr, σ2 = [some a, some b, some (.ref y1), some (.ref y2), some (.ref y3), some (.ref y4), none] ∧ Same H H2 ∧ ExAt H2 y1 (cs0.getD 10 0) ((["name"] : List Str).zip [a]).reverse ∧ ExAt H2 y2 (cs0.getD 11 0) ((["name"] : List Str).zip [a]).reverse ∧ ExAt H2 y3 (cs0.getD 12 0) ((["name", "number"] : List Str).zip [a, b]).reverse ∧ ExAt H2 y4 (cs0.getD 13 0) ((["name", "number"] : List Str).zip [a, b]).reverse, ?_, ?_⟩
  · skip
    refine ⟨_, rfl, rfl, fun e1 H1 _ s1 _ x1 => ?_⟩
    replace sT := Same.trans sT s1
    clear s1
    refine ⟨_, rfl, rfl, fun e2 H2 _ s2 _ x2 => ?_⟩
    replace x1 := x1.same s2
    replace sT := Same.trans sT s2
    clear s2
    refine ⟨_, rfl, _, rfl, rfl, fun e3 H3 _ s3 _ x3 => ?_⟩
    replace x1 := x1.same s3
    replace x2 := x2.same s3
    replace sT := Same.trans sT s3
    clear s3
    refine ⟨_, rfl, _, rfl, rfl, fun e4 H4 _ s4 _ x4 => ?_⟩
    replace x1 := x1.same s4
    replace x2 := x2.same s4
    replace x3 := x3.same s4
    replace sT := Same.trans sT s4
    clear s4
    refine ⟨szB (by show 4 ≤ 1000000; decide), fun p5 hp5 => ?_⟩
    have q5 : Same _ _ := same_new (fun _ _ z => z) hp5 (.tup [V.ref e1, V.ref e2, V.ref e3, V.ref e4])
    replace x1 := x1.same q5
    replace x2 := x2.same q5
    replace x3 := x3.same q5
    replace x4 := x4.same q5
    replace sT := Same.trans sT q5
    refine ⟨p5, _, rfl, SqT.of upd_same, rfl, _, _, rfl, _, _, rfl, _, _, rfl, _, _, rfl, rfl, ?_⟩
    exact ⟨_, _, _, _, rfl, sT, x1, x2, x3, x4⟩
  rintro σ2 H6 ⟨e7, e8, e9, e10, rfl, sT2, x7, x8, x9, x10⟩
  clear sT
  have sT := sT2; clear sT2
  refine ⟨fun σ2 H2 => ∃ y7 y8 y9 y10 yf : Addr, σ2 = [some a, some b, some (.ref y7), some (.ref y8), some (.ref y9), some (.ref y10), some (.ref yf)] ∧ Same H H2 ∧ ExAt H2 y7 (cs0.getD 10 0) ((["name"] : List Str).zip [a]).reverse ∧ ExAt H2 y8 (cs0.getD 11 0) ((["name"] : List Str).zip [a]).reverse ∧ ExAt H2 y9 (cs0.getD 12 0) ((["name", "number"] : List Str).zip [a, b]).reverse ∧ ExAt H2 y10 (cs0.getD 13 0) ((["name", "number"] : List Str).zip [a, b]).reverse ∧ RowsAt cs0 (fun x => x = a ∨ x = b) H2 yf 3, ?_, ?_⟩
  · skip
    refine ⟨_, rfl, _, rfl, e7, _, _, _, rfl, (ES.up 10 (by decide)).2.2.2, ES.e_NoFile.no "name" (by simp), x7, rfl, szB (by show 1 ≤ 1000000; decide), fun u11 hu11 => ?_⟩
    refine ⟨_, rfl, szB (by show 1 ≤ 1000000; decide), fun d11 hd11 => ?_⟩
    refine ⟨szB (by show 4 ≤ 1000000; decide), fun t11 ht11 => ?_⟩
    obtain ⟨G11, hG11⟩ : ∃ G, G = upd (upd (upd H6 u11 (.lst [a])) d11 (.lst [a])) t11 (.tup [.int 10, .ref e7, .ref u11, .ref d11]) := ⟨_, rfl⟩
    have z11 : Same H6 G11 ∧ RowAt cs0 (fun x => x = a ∨ x = b) G11 (.ref t11) := by rw [hG11]; exact rowAt_of (VS := fun x => x = a ∨ x = b) (n := 10) (by decide) x7 hu11 hd11 ht11 (by intro x h; simp only [List.mem_cons, List.not_mem_nil, or_false] at h; exact (.inl h)) (by show 1 ≤ 3; decide)
    rw [← hG11]
    clear hG11
    obtain ⟨s11, r11⟩ := z11
    replace x7 := x7.same s11
    replace x8 := x8.same s11
    replace x9 := x9.same s11
    replace x10 := x10.same s11
    replace sT := Same.trans sT s11
    clear s11
    refine ⟨_, rfl, _, rfl, e8, _, _, _, rfl, (ES.up 11 (by decide)).2.2.2, ES.e_NoScript.no "name" (by simp), x8, rfl, szB (by show 1 ≤ 1000000; decide), fun u12 hu12 => ?_⟩
    refine ⟨_, rfl, szB (by show 1 ≤ 1000000; decide), fun d12 hd12 => ?_⟩
    refine ⟨szB (by show 4 ≤ 1000000; decide), fun t12 ht12 => ?_⟩
    obtain ⟨G12, hG12⟩ : ∃ G, G = upd (upd (upd G11 u12 (.lst [a])) d12 (.lst [a])) t12 (.tup [.int 11, .ref e8, .ref u12, .ref d12]) := ⟨_, rfl⟩
    have z12 : Same G11 G12 ∧ RowAt cs0 (fun x => x = a ∨ x = b) G12 (.ref t12) := by rw [hG12]; exact rowAt_of (VS := fun x => x = a ∨ x = b) (n := 11) (by decide) x8 hu12 hd12 ht12 (by intro x h; simp only [List.mem_cons, List.not_mem_nil, or_false] at h; exact (.inl h)) (by show 1 ≤ 3; decide)
    rw [← hG12]
    clear hG12
    obtain ⟨s12, r12⟩ := z12
    replace x7 := x7.same s12
    replace x8 := x8.same s12
    replace x9 := x9.same s12
    replace x10 := x10.same s12
    replace r11 := r11.ks (Ks.of s12)
    replace sT := Same.trans sT s12
    clear s12
    refine ⟨_, rfl, _, rfl, e9, _, _, _, rfl, (ES.up 12 (by decide)).2.2.2, ES.e_NoGuard.no "name" (by simp), x9, rfl, _, rfl, e9, _, _, _, rfl, (ES.up 12 (by decide)).2.2.2, ES.e_NoGuard.no "number" (by simp), x9, rfl, szB (by show 2 ≤ 1000000; decide), fun u13 hu13 => ?_⟩
    refine ⟨_, rfl, _, rfl, szB (by show 2 ≤ 1000000; decide), fun d13 hd13 => ?_⟩
    refine ⟨szB (by show 4 ≤ 1000000; decide), fun t13 ht13 => ?_⟩
    obtain ⟨G13, hG13⟩ : ∃ G, G = upd (upd (upd G12 u13 (.lst [a, b])) d13 (.lst [a, b])) t13 (.tup [.int 12, .ref e9, .ref u13, .ref d13]) := ⟨_, rfl⟩
    have z13 : Same G12 G13 ∧ RowAt cs0 (fun x => x = a ∨ x = b) G13 (.ref t13) := by rw [hG13]; exact rowAt_of (VS := fun x => x = a ∨ x = b) (n := 12) (by decide) x9 hu13 hd13 ht13 (by intro x h; simp only [List.mem_cons, List.not_mem_nil, or_false] at h; rcases h with h | h; exact (.inl h); exact (.inr h)) (by show 2 ≤ 3; decide)
    rw [← hG13]
    clear hG13
    obtain ⟨s13, r13⟩ := z13
    replace x7 := x7.same s13
    replace x8 := x8.same s13
    replace x9 := x9.same s13
    replace x10 := x10.same s13
    replace r11 := r11.ks (Ks.of s13)
    replace r12 := r12.ks (Ks.of s13)
    replace sT := Same.trans sT s13
    clear s13
    refine ⟨szB (by show 3 ≤ 1000000; decide), fun p14 hp14 => ?_⟩
    have w14 := RowsAt.new hp14 (xs := [.ref t11, .ref t12, .ref t13]) (by intro v hv; simp only [List.mem_cons, List.not_mem_nil, or_false] at hv; rcases hv with rfl | rfl | rfl; exact r11; exact r12; exact r13)
    have q14 : Same _ _ := same_new (fun _ _ z => z) hp14 (.lst [V.ref t11, V.ref t12, V.ref t13])
    replace x7 := x7.same q14
    replace x8 := x8.same q14
    replace x9 := x9.same q14
    replace x10 := x10.same q14
    replace sT := Same.trans sT q14
    obtain ⟨G14, hG14⟩ : ∃ G, G = upd G13 p14 (.lst [V.ref t11, V.ref t12, V.ref t13]) := ⟨_, rfl⟩
    rw [← hG14] at w14 sT x7 x8 x9 x10
    rw [← hG14]
    clear q14 hG14
    have R := w14
    exact ⟨_, _, _, _, _, rfl, sT, x7, x8, x9, x10, R⟩
  rintro σ2 H15 ⟨e16, e17, e18, e19, yf, rfl, sT2, x16, x17, x18, x19, R2⟩
  clear x7 x8 x9 x10 sT
  have sT := sT2; clear sT2
  have R := R2; clear R2
  refine ⟨fun σ2 H2 => ∃ y16 y17 y18 y19 yf : Addr, σ2 = [some a, some b, some (.ref y16), some (.ref y17), some (.ref y18), some (.ref y19), some (.ref yf)] ∧ Same H H2 ∧ ExAt H2 y16 (cs0.getD 10 0) ((["name"] : List Str).zip [a]).reverse ∧ ExAt H2 y17 (cs0.getD 11 0) ((["name"] : List Str).zip [a]).reverse ∧ ExAt H2 y18 (cs0.getD 12 0) ((["name", "number"] : List Str).zip [a, b]).reverse ∧ ExAt H2 y19 (cs0.getD 13 0) ((["name", "number"] : List Str).zip [a, b]).reverse ∧ RowsAt cs0 (fun x => x = a ∨ x = b) H2 yf 4, ?_, ?_⟩
  · skip
    refine ⟨_, rfl, ?_⟩
    refine ⟨_, rfl, _, rfl, e19, _, _, _, rfl, (ES.up 13 (by decide)).2.2.2, ES.e_Broken.no "name" (by simp), x19, rfl, _, rfl, e19, _, _, _, rfl, (ES.up 13 (by decide)).2.2.2, ES.e_Broken.no "number" (by simp), x19, rfl, szB (by show 2 ≤ 1000000; decide), fun u20 hu20 => ?_⟩
    refine ⟨_, rfl, _, rfl, szB (by show 2 ≤ 1000000; decide), fun d20 hd20 => ?_⟩
    refine ⟨szB (by show 4 ≤ 1000000; decide), fun t20 ht20 => ?_⟩
    obtain ⟨G20, hG20⟩ : ∃ G, G = upd (upd (upd H15 u20 (.lst [a, b])) d20 (.lst [a, b])) t20 (.tup [.int 13, .ref e19, .ref u20, .ref d20]) := ⟨_, rfl⟩
    have z20 : Same H15 G20 ∧ RowAt cs0 (fun x => x = a ∨ x = b) G20 (.ref t20) := by rw [hG20]; exact rowAt_of (VS := fun x => x = a ∨ x = b) (n := 13) (by decide) x19 hu20 hd20 ht20 (by intro x h; simp only [List.mem_cons, List.not_mem_nil, or_false] at h; rcases h with h | h; exact (.inl h); exact (.inr h)) (by show 2 ≤ 3; decide)
    rw [← hG20]
    clear hG20
    obtain ⟨s20, r20⟩ := z20
    replace x16 := x16.same s20
    replace x17 := x17.same s20
    replace x18 := x18.same s20
    replace x19 := x19.same s20
    replace R := R.ks (Ks.of s20)
    replace sT := Same.trans sT s20
    clear s20
    refine ⟨szB (by show 1 ≤ 1000000; decide), fun p21 hp21 => ?_⟩
    have w21 := RowsAt.new hp21 (xs := [.ref t20]) (by intro v hv; simp only [List.mem_cons, List.not_mem_nil, or_false] at hv; rcases hv with rfl; exact r20)
    have q21 : Same _ _ := same_new (fun _ _ z => z) hp21 (.lst [V.ref t20])
    replace x16 := x16.same q21
    replace x17 := x17.same q21
    replace x18 := x18.same q21
    replace x19 := x19.same q21
    replace R := R.ks (Ks.of q21)
    replace sT := Same.trans sT q21
    obtain ⟨G21, hG21⟩ : ∃ G, G = upd G20 p21 (.lst [V.ref t20]) := ⟨_, rfl⟩
    rw [← hG21] at w21 sT x16 x17 x18 x19 R
    rw [← hG21]
    clear q21 hG21
    refine cat_step R w21 (by show 4 ≤ 1000; decide) fun p22 H22 s22 R => ?_
    replace x16 := x16.same s22
    replace x17 := x17.same s22
    replace x18 := x18.same s22
    replace x19 := x19.same s22
    replace sT := Same.trans sT s22
    clear s22
    exact ⟨_, _, _, _, _, rfl, sT, x16, x17, x18, x19, R⟩
  rintro σ2 H23 ⟨e24, e25, e26, e27, yf, rfl, sT2, x24, x25, x26, x27, R2⟩
  clear x16 x17 x18 x19 R sT
  have sT := sT2; clear sT2
  have R := R2; clear R2
  refine ⟨fun σ2 H2 => ∃ y28 y29 y30 y31 yf : Addr, σ2 = [some a, some b, some (.ref y28), some (.ref y29), some (.ref y30), some (.ref y31), some (.ref yf)] ∧ Same H H2 ∧ ExAt H2 y28 (cs0.getD 14 0) ((["place"] : List Str).zip [a]).reverse ∧ ExAt H2 y29 (cs0.getD 15 0) ((["number"] : List Str).zip [a]).reverse ∧ ExAt H2 y30 (cs0.getD 16 0) ((["number"] : List Str).zip [a]).reverse ∧ ExAt H2 y31 (cs0.getD 17 0) ((["name"] : List Str).zip [a]).reverse ∧ RowsAt cs0 (fun x => x = a ∨ x = b) H2 yf 4, ?_, ?_⟩
  · skip
    refine ⟨_, rfl, rfl, fun e28 H28 _ s28 _ x28 => ?_⟩
    replace x24 := x24.same s28
    replace x25 := x25.same s28
    replace x26 := x26.same s28
    replace x27 := x27.same s28
    replace R := R.ks (Ks.of s28)
    replace sT := Same.trans sT s28
    clear s28
    refine ⟨_, rfl, rfl, fun e29 H29 _ s29 _ x29 => ?_⟩
    replace x24 := x24.same s29
    replace x25 := x25.same s29
    replace x26 := x26.same s29
    replace x27 := x27.same s29
    replace x28 := x28.same s29
    replace R := R.ks (Ks.of s29)
    replace sT := Same.trans sT s29
    clear s29
    refine ⟨_, rfl, rfl, fun e30 H30 _ s30 _ x30 => ?_⟩
    replace x24 := x24.same s30
    replace x25 := x25.same s30
    replace x26 := x26.same s30
    replace x27 := x27.same s30
    replace x28 := x28.same s30
    replace x29 := x29.same s30
    replace R := R.ks (Ks.of s30)
    replace sT := Same.trans sT s30
    clear s30
    refine ⟨_, rfl, rfl, fun e31 H31 _ s31 _ x31 => ?_⟩
    replace x24 := x24.same s31
    replace x25 := x25.same s31
    replace x26 := x26.same s31
    replace x27 := x27.same s31
    replace x28 := x28.same s31
    replace x29 := x29.same s31
    replace x30 := x30.same s31
    replace R := R.ks (Ks.of s31)
    replace sT := Same.trans sT s31
    clear s31
    refine ⟨szB (by show 4 ≤ 1000000; decide), fun p32 hp32 => ?_⟩
    have q32 : Same _ _ := same_new (fun _ _ z => z) hp32 (.tup [V.ref e28, V.ref e29, V.ref e30, V.ref e31])
    replace x24 := x24.same q32
    replace x25 := x25.same q32
    replace x26 := x26.same q32
    replace x27 := x27.same q32
    replace x28 := x28.same q32
    replace x29 := x29.same q32
    replace x30 := x30.same q32
    replace x31 := x31.same q32
    replace R := R.ks (Ks.of q32)
    replace sT := Same.trans sT q32
    refine ⟨p32, _, rfl, SqT.of upd_same, rfl, _, _, rfl, _, _, rfl, _, _, rfl, _, _, rfl, rfl, ?_⟩
    exact ⟨_, _, _, _, _, rfl, sT, x28, x29, x30, x31, R⟩
  rintro σ2 H33 ⟨e34, e35, e36, e37, yf, rfl, sT2, x34, x35, x36, x37, R2⟩
  clear x24 x25 x26 x27 R sT
  have sT := sT2; clear sT2
  have R := R2; clear R2
  refine ⟨fun σ2 H2 => ∃ y34 y35 y36 y37 yf : Addr, σ2 = [some a, some b, some (.ref y34), some (.ref y35), some (.ref y36), some (.ref y37), some (.ref yf)] ∧ Same H H2 ∧ ExAt H2 y34 (cs0.getD 14 0) ((["place"] : List Str).zip [a]).reverse ∧ ExAt H2 y35 (cs0.getD 15 0) ((["number"] : List Str).zip [a]).reverse ∧ ExAt H2 y36 (cs0.getD 16 0) ((["number"] : List Str).zip [a]).reverse ∧ ExAt H2 y37 (cs0.getD 17 0) ((["name"] : List Str).zip [a]).reverse ∧ RowsAt cs0 (fun x => x = a ∨ x = b) H2 yf 7, ?_, ?_⟩
  · skip
    refine ⟨_, rfl, ?_⟩
    refine ⟨_, rfl, _, rfl, e34, _, _, _, rfl, (ES.up 14 (by decide)).2.2.2, ES.e_BadPlace.no "place" (by simp), x34, rfl, szB (by show 1 ≤ 1000000; decide), fun u38 hu38 => ?_⟩
    refine ⟨_, rfl, szB (by show 1 ≤ 1000000; decide), fun d38 hd38 => ?_⟩
    refine ⟨szB (by show 4 ≤ 1000000; decide), fun t38 ht38 => ?_⟩
    obtain ⟨G38, hG38⟩ : ∃ G, G = upd (upd (upd H33 u38 (.lst [a])) d38 (.lst [a])) t38 (.tup [.int 14, .ref e34, .ref u38, .ref d38]) := ⟨_, rfl⟩
    have z38 : Same H33 G38 ∧ RowAt cs0 (fun x => x = a ∨ x = b) G38 (.ref t38) := by rw [hG38]; exact rowAt_of (VS := fun x => x = a ∨ x = b) (n := 14) (by decide) x34 hu38 hd38 ht38 (by intro x h; simp only [List.mem_cons, List.not_mem_nil, or_false] at h; exact (.inl h)) (by show 1 ≤ 3; decide)
    rw [← hG38]
    clear hG38
    obtain ⟨s38, r38⟩ := z38
    replace x34 := x34.same s38
    replace x35 := x35.same s38
    replace x36 := x36.same s38
    replace x37 := x37.same s38
    replace R := R.ks (Ks.of s38)
    replace sT := Same.trans sT s38
    clear s38
    refine ⟨_, rfl, _, rfl, e35, _, _, _, rfl, (ES.up 15 (by decide)).2.2.2, ES.e_NoLine.no "number" (by simp), x35, rfl, szB (by show 1 ≤ 1000000; decide), fun u39 hu39 => ?_⟩
    refine ⟨_, rfl, szB (by show 1 ≤ 1000000; decide), fun d39 hd39 => ?_⟩
    refine ⟨szB (by show 4 ≤ 1000000; decide), fun t39 ht39 => ?_⟩
    obtain ⟨G39, hG39⟩ : ∃ G, G = upd (upd (upd G38 u39 (.lst [a])) d39 (.lst [a])) t39 (.tup [.int 15, .ref e35, .ref u39, .ref d39]) := ⟨_, rfl⟩
    have z39 : Same G38 G39 ∧ RowAt cs0 (fun x => x = a ∨ x = b) G39 (.ref t39) := by rw [hG39]; exact rowAt_of (VS := fun x => x = a ∨ x = b) (n := 15) (by decide) x35 hu39 hd39 ht39 (by intro x h; simp only [List.mem_cons, List.not_mem_nil, or_false] at h; exact (.inl h)) (by show 1 ≤ 3; decide)
    rw [← hG39]
    clear hG39
    obtain ⟨s39, r39⟩ := z39
    replace x34 := x34.same s39
    replace x35 := x35.same s39
    replace x36 := x36.same s39
    replace x37 := x37.same s39
    replace r38 := r38.ks (Ks.of s39)
    replace R := R.ks (Ks.of s39)
    replace sT := Same.trans sT s39
    clear s39
    refine ⟨_, rfl, _, rfl, e36, _, _, _, rfl, (ES.up 16 (by decide)).2.2.2, ES.e_Touched.no "number" (by simp), x36, rfl, szB (by show 1 ≤ 1000000; decide), fun u40 hu40 => ?_⟩
    refine ⟨_, rfl, szB (by show 1 ≤ 1000000; decide), fun d40 hd40 => ?_⟩
    refine ⟨szB (by show 4 ≤ 1000000; decide), fun t40 ht40 => ?_⟩
    obtain ⟨G40, hG40⟩ : ∃ G, G = upd (upd (upd G39 u40 (.lst [a])) d40 (.lst [a])) t40 (.tup [.int 16, .ref e36, .ref u40, .ref d40]) := ⟨_, rfl⟩
    have z40 : Same G39 G40 ∧ RowAt cs0 (fun x => x = a ∨ x = b) G40 (.ref t40) := by rw [hG40]; exact rowAt_of (VS := fun x => x = a ∨ x = b) (n := 16) (by decide) x36 hu40 hd40 ht40 (by intro x h; simp only [List.mem_cons, List.not_mem_nil, or_false] at h; exact (.inl h)) (by show 1 ≤ 3; decide)
    rw [← hG40]
    clear hG40
    obtain ⟨s40, r40⟩ := z40
    replace x34 := x34.same s40
    replace x35 := x35.same s40
    replace x36 := x36.same s40
    replace x37 := x37.same s40
    replace r38 := r38.ks (Ks.of s40)
    replace r39 := r39.ks (Ks.of s40)
    replace R := R.ks (Ks.of s40)
    replace sT := Same.trans sT s40
    clear s40
    refine ⟨szB (by show 3 ≤ 1000000; decide), fun p41 hp41 => ?_⟩
    have w41 := RowsAt.new hp41 (xs := [.ref t38, .ref t39, .ref t40]) (by intro v hv; simp only [List.mem_cons, List.not_mem_nil, or_false] at hv; rcases hv with rfl | rfl | rfl; exact r38; exact r39; exact r40)
    have q41 : Same _ _ := same_new (fun _ _ z => z) hp41 (.lst [V.ref t38, V.ref t39, V.ref t40])
    replace x34 := x34.same q41
    replace x35 := x35.same q41
    replace x36 := x36.same q41
    replace x37 := x37.same q41
    replace R := R.ks (Ks.of q41)
    replace sT := Same.trans sT q41
    obtain ⟨G41, hG41⟩ : ∃ G, G = upd G40 p41 (.lst [V.ref t38, V.ref t39, V.ref t40]) := ⟨_, rfl⟩
    rw [← hG41] at w41 sT x34 x35 x36 x37 R
    rw [← hG41]
    clear q41 hG41
    refine cat_step R w41 (by show 7 ≤ 1000; decide) fun p42 H42 s42 R => ?_
    replace x34 := x34.same s42
    replace x35 := x35.same s42
    replace x36 := x36.same s42
    replace x37 := x37.same s42
    replace sT := Same.trans sT s42
    clear s42
    exact ⟨_, _, _, _, _, rfl, sT, x34, x35, x36, x37, R⟩
  rintro σ2 H43 ⟨e44, e45, e46, e47, yf, rfl, sT2, x44, x45, x46, x47, R2⟩
  clear x34 x35 x36 x37 R sT
  have sT := sT2; clear sT2
  have R := R2; clear R2
  refine ⟨fun σ2 H2 => ∃ y44 y45 y46 y47 yf : Addr, σ2 = [some a, some b, some (.ref y44), some (.ref y45), some (.ref y46), some (.ref y47), some (.ref yf)] ∧ Same H H2 ∧ ExAt H2 y44 (cs0.getD 14 0) ((["place"] : List Str).zip [a]).reverse ∧ ExAt H2 y45 (cs0.getD 15 0) ((["number"] : List Str).zip [a]).reverse ∧ ExAt H2 y46 (cs0.getD 16 0) ((["number"] : List Str).zip [a]).reverse ∧ ExAt H2 y47 (cs0.getD 17 0) ((["name"] : List Str).zip [a]).reverse ∧ RowsAt cs0 (fun x => x = a ∨ x = b) H2 yf 8, ?_, ?_⟩
  · skip
    refine ⟨_, rfl, ?_⟩
    refine ⟨_, rfl, _, rfl, e47, _, _, _, rfl, (ES.up 17 (by decide)).2.2.2, ES.e_AllLines.no "name" (by simp), x47, rfl, szB (by show 1 ≤ 1000000; decide), fun u48 hu48 => ?_⟩
    refine ⟨_, rfl, szB (by show 1 ≤ 1000000; decide), fun d48 hd48 => ?_⟩
    refine ⟨szB (by show 4 ≤ 1000000; decide), fun t48 ht48 => ?_⟩
    obtain ⟨G48, hG48⟩ : ∃ G, G = upd (upd (upd H43 u48 (.lst [a])) d48 (.lst [a])) t48 (.tup [.int 17, .ref e47, .ref u48, .ref d48]) := ⟨_, rfl⟩
    have z48 : Same H43 G48 ∧ RowAt cs0 (fun x => x = a ∨ x = b) G48 (.ref t48) := by rw [hG48]; exact rowAt_of (VS := fun x => x = a ∨ x = b) (n := 17) (by decide) x47 hu48 hd48 ht48 (by intro x h; simp only [List.mem_cons, List.not_mem_nil, or_false] at h; exact (.inl h)) (by show 1 ≤ 3; decide)
    rw [← hG48]
    clear hG48
    obtain ⟨s48, r48⟩ := z48
    replace x44 := x44.same s48
    replace x45 := x45.same s48
    replace x46 := x46.same s48
    replace x47 := x47.same s48
    replace R := R.ks (Ks.of s48)
    replace sT := Same.trans sT s48
    clear s48
    refine ⟨szB (by show 1 ≤ 1000000; decide), fun p49 hp49 => ?_⟩
    have w49 := RowsAt.new hp49 (xs := [.ref t48]) (by intro v hv; simp only [List.mem_cons, List.not_mem_nil, or_false] at hv; rcases hv with rfl; exact r48)
    have q49 : Same _ _ := same_new (fun _ _ z => z) hp49 (.lst [V.ref t48])
    replace x44 := x44.same q49
    replace x45 := x45.same q49
    replace x46 := x46.same q49
    replace x47 := x47.same q49
    replace R := R.ks (Ks.of q49)
    replace sT := Same.trans sT q49
    obtain ⟨G49, hG49⟩ : ∃ G, G = upd G48 p49 (.lst [V.ref t48]) := ⟨_, rfl⟩
    rw [← hG49] at w49 sT x44 x45 x46 x47 R
    rw [← hG49]
    clear q49 hG49
    refine cat_step R w49 (by show 8 ≤ 1000; decide) fun p50 H50 s50 R => ?_
    replace x44 := x44.same s50
    replace x45 := x45.same s50
    replace x46 := x46.same s50
    replace x47 := x47.same s50
    replace sT := Same.trans sT s50
    clear s50
    exact ⟨_, _, _, _, _, rfl, sT, x44, x45, x46, x47, R⟩
  rintro σ2 H51 ⟨e52, e53, e54, e55, yf, rfl, sT2, x52, x53, x54, x55, R2⟩
  clear x44 x45 x46 x47 R sT
  have sT := sT2; clear sT2
  have R := R2; clear R2
  refine ⟨fun σ2 H2 => ∃ y56 y57 y58 y59 yf : Addr, σ2 = [some a, some b, some (.ref y56), some (.ref y57), some (.ref y58), some (.ref y59), some (.ref yf)] ∧ Same H H2 ∧ ExAt H2 y56 (cs0.getD 18 0) ((["number"] : List Str).zip [a]).reverse ∧ ExAt H2 y57 (cs0.getD 19 0) ((["text"] : List Str).zip [a]).reverse ∧ ExAt H2 y58 (cs0.getD 20 0) ((["start", "stop"] : List Str).zip [a, b]).reverse ∧ ExAt H2 y59 (cs0.getD 21 0) ((["text"] : List Str).zip [a]).reverse ∧ RowsAt cs0 (fun x => x = a ∨ x = b) H2 yf 8, ?_, ?_⟩
  · skip
    refine ⟨_, rfl, rfl, fun e56 H56 _ s56 _ x56 => ?_⟩
    replace x52 := x52.same s56
    replace x53 := x53.same s56
    replace x54 := x54.same s56
    replace x55 := x55.same s56
    replace R := R.ks (Ks.of s56)
    replace sT := Same.trans sT s56
    clear s56
    refine ⟨_, rfl, rfl, fun e57 H57 _ s57 _ x57 => ?_⟩
    replace x52 := x52.same s57
    replace x53 := x53.same s57
    replace x54 := x54.same s57
    replace x55 := x55.same s57
    replace x56 := x56.same s57
    replace R := R.ks (Ks.of s57)
    replace sT := Same.trans sT s57
    clear s57
    refine ⟨_, rfl, _, rfl, rfl, fun e58 H58 _ s58 _ x58 => ?_⟩
    replace x52 := x52.same s58
    replace x53 := x53.same s58
    replace x54 := x54.same s58
    replace x55 := x55.same s58
    replace x56 := x56.same s58
    replace x57 := x57.same s58
    replace R := R.ks (Ks.of s58)
    replace sT := Same.trans sT s58
    clear s58
    refine ⟨_, rfl, rfl, fun e59 H59 _ s59 _ x59 => ?_⟩
    replace x52 := x52.same s59
    replace x53 := x53.same s59
    replace x54 := x54.same s59
    replace x55 := x55.same s59
    replace x56 := x56.same s59
    replace x57 := x57.same s59
    replace x58 := x58.same s59
    replace R := R.ks (Ks.of s59)
    replace sT := Same.trans sT s59
    clear s59
    refine ⟨szB (by show 4 ≤ 1000000; decide), fun p60 hp60 => ?_⟩
    have q60 : Same _ _ := same_new (fun _ _ z => z) hp60 (.tup [V.ref e56, V.ref e57, V.ref e58, V.ref e59])
    replace x52 := x52.same q60
    replace x53 := x53.same q60
    replace x54 := x54.same q60
    replace x55 := x55.same q60
    replace x56 := x56.same q60
    replace x57 := x57.same q60
    replace x58 := x58.same q60
    replace x59 := x59.same q60
    replace R := R.ks (Ks.of q60)
    replace sT := Same.trans sT q60
    refine ⟨p60, _, rfl, SqT.of upd_same, rfl, _, _, rfl, _, _, rfl, _, _, rfl, _, _, rfl, rfl, ?_⟩
    exact ⟨_, _, _, _, _, rfl, sT, x56, x57, x58, x59, R⟩
  rintro σ2 H61 ⟨e62, e63, e64, e65, yf, rfl, sT2, x62, x63, x64, x65, R2⟩
  clear x52 x53 x54 x55 R sT
  have sT := sT2; clear sT2
  have R := R2; clear R2
  refine ⟨fun σ2 H2 => ∃ y62 y63 y64 y65 yf : Addr, σ2 = [some a, some b, some (.ref y62), some (.ref y63), some (.ref y64), some (.ref y65), some (.ref yf)] ∧ Same H H2 ∧ ExAt H2 y62 (cs0.getD 18 0) ((["number"] : List Str).zip [a]).reverse ∧ ExAt H2 y63 (cs0.getD 19 0) ((["text"] : List Str).zip [a]).reverse ∧ ExAt H2 y64 (cs0.getD 20 0) ((["start", "stop"] : List Str).zip [a, b]).reverse ∧ ExAt H2 y65 (cs0.getD 21 0) ((["text"] : List Str).zip [a]).reverse ∧ RowsAt cs0 (fun x => x = a ∨ x = b) H2 yf 10, ?_, ?_⟩
  · skip
    refine ⟨_, rfl, ?_⟩
    refine ⟨_, rfl, _, rfl, e62, _, _, _, rfl, (ES.up 18 (by decide)).2.2.2, ES.e_NoHidden.no "number" (by simp), x62, rfl, szB (by show 1 ≤ 1000000; decide), fun u66 hu66 => ?_⟩
    refine ⟨_, rfl, szB (by show 1 ≤ 1000000; decide), fun d66 hd66 => ?_⟩
    refine ⟨szB (by show 4 ≤ 1000000; decide), fun t66 ht66 => ?_⟩
    obtain ⟨G66, hG66⟩ : ∃ G, G = upd (upd (upd H61 u66 (.lst [a])) d66 (.lst [a])) t66 (.tup [.int 18, .ref e62, .ref u66, .ref d66]) := ⟨_, rfl⟩
    have z66 : Same H61 G66 ∧ RowAt cs0 (fun x => x = a ∨ x = b) G66 (.ref t66) := by rw [hG66]; exact rowAt_of (VS := fun x => x = a ∨ x = b) (n := 18) (by decide) x62 hu66 hd66 ht66 (by intro x h; simp only [List.mem_cons, List.not_mem_nil, or_false] at h; exact (.inl h)) (by show 1 ≤ 3; decide)
    rw [← hG66]
    clear hG66
    obtain ⟨s66, r66⟩ := z66
    replace x62 := x62.same s66
    replace x63 := x63.same s66
    replace x64 := x64.same s66
    replace x65 := x65.same s66
    replace R := R.ks (Ks.of s66)
    replace sT := Same.trans sT s66
    clear s66
    refine ⟨_, rfl, _, rfl, e63, _, _, _, rfl, (ES.up 19 (by decide)).2.2.2, ES.e_Unlike.no "text" (by simp), x63, rfl, szB (by show 1 ≤ 1000000; decide), fun u67 hu67 => ?_⟩
    refine ⟨_, rfl, szB (by show 1 ≤ 1000000; decide), fun d67 hd67 => ?_⟩
    refine ⟨szB (by show 4 ≤ 1000000; decide), fun t67 ht67 => ?_⟩
    obtain ⟨G67, hG67⟩ : ∃ G, G = upd (upd (upd G66 u67 (.lst [a])) d67 (.lst [a])) t67 (.tup [.int 19, .ref e63, .ref u67, .ref d67]) := ⟨_, rfl⟩
    have z67 : Same G66 G67 ∧ RowAt cs0 (fun x => x = a ∨ x = b) G67 (.ref t67) := by rw [hG67]; exact rowAt_of (VS := fun x => x = a ∨ x = b) (n := 19) (by decide) x63 hu67 hd67 ht67 (by intro x h; simp only [List.mem_cons, List.not_mem_nil, or_false] at h; exact (.inl h)) (by show 1 ≤ 3; decide)
    rw [← hG67]
    clear hG67
    obtain ⟨s67, r67⟩ := z67
    replace x62 := x62.same s67
    replace x63 := x63.same s67
    replace x64 := x64.same s67
    replace x65 := x65.same s67
    replace r66 := r66.ks (Ks.of s67)
    replace R := R.ks (Ks.of s67)
    replace sT := Same.trans sT s67
    clear s67
    refine ⟨szB (by show 2 ≤ 1000000; decide), fun p68 hp68 => ?_⟩
    have w68 := RowsAt.new hp68 (xs := [.ref t66, .ref t67]) (by intro v hv; simp only [List.mem_cons, List.not_mem_nil, or_false] at hv; rcases hv with rfl | rfl; exact r66; exact r67)
    have q68 : Same _ _ := same_new (fun _ _ z => z) hp68 (.lst [V.ref t66, V.ref t67])
    replace x62 := x62.same q68
    replace x63 := x63.same q68
    replace x64 := x64.same q68
    replace x65 := x65.same q68
    replace R := R.ks (Ks.of q68)
    replace sT := Same.trans sT q68
    obtain ⟨G68, hG68⟩ : ∃ G, G = upd G67 p68 (.lst [V.ref t66, V.ref t67]) := ⟨_, rfl⟩
    rw [← hG68] at w68 sT x62 x63 x64 x65 R
    rw [← hG68]
    clear q68 hG68
    refine cat_step R w68 (by show 10 ≤ 1000; decide) fun p69 H69 s69 R => ?_
    replace x62 := x62.same s69
    replace x63 := x63.same s69
    replace x64 := x64.same s69
    replace x65 := x65.same s69
    replace sT := Same.trans sT s69
    clear s69
    exact ⟨_, _, _, _, _, rfl, sT, x62, x63, x64, x65, R⟩
  rintro σ2 H70 ⟨e71, e72, e73, e74, yf, rfl, sT2, x71, x72, x73, x74, R2⟩
  clear x62 x63 x64 x65 R sT
  have sT := sT2; clear sT2
  have R := R2; clear R2
  refine ⟨fun σ2 H2 => ∃ y71 y72 y73 y74 yf : Addr, σ2 = [some a, some b, some (.ref y71), some (.ref y72), some (.ref y73), some (.ref y74), some (.ref yf)] ∧ Same H H2 ∧ ExAt H2 y71 (cs0.getD 18 0) ((["number"] : List Str).zip [a]).reverse ∧ ExAt H2 y72 (cs0.getD 19 0) ((["text"] : List Str).zip [a]).reverse ∧ ExAt H2 y73 (cs0.getD 20 0) ((["start", "stop"] : List Str).zip [a, b]).reverse ∧ ExAt H2 y74 (cs0.getD 21 0) ((["text"] : List Str).zip [a]).reverse ∧ RowsAt cs0 (fun x => x = a ∨ x = b) H2 yf 12, ?_, ?_⟩
  · skip
    refine ⟨_, rfl, ?_⟩
    refine ⟨_, rfl, _, rfl, e73, _, _, _, rfl, (ES.up 20 (by decide)).2.2.2, ES.e_Conflict.no "start" (by simp), x73, rfl, _, rfl, e73, _, _, _, rfl, (ES.up 20 (by decide)).2.2.2, ES.e_Conflict.no "stop" (by simp), x73, rfl, szB (by show 2 ≤ 1000000; decide), fun u75 hu75 => ?_⟩
    refine ⟨_, rfl, _, rfl, szB (by show 2 ≤ 1000000; decide), fun d75 hd75 => ?_⟩
    refine ⟨szB (by show 4 ≤ 1000000; decide), fun t75 ht75 => ?_⟩
    obtain ⟨G75, hG75⟩ : ∃ G, G = upd (upd (upd H70 u75 (.lst [a, b])) d75 (.lst [a, b])) t75 (.tup [.int 20, .ref e73, .ref u75, .ref d75]) := ⟨_, rfl⟩
    have z75 : Same H70 G75 ∧ RowAt cs0 (fun x => x = a ∨ x = b) G75 (.ref t75) := by rw [hG75]; exact rowAt_of (VS := fun x => x = a ∨ x = b) (n := 20) (by decide) x73 hu75 hd75 ht75 (by intro x h; simp only [List.mem_cons, List.not_mem_nil, or_false] at h; rcases h with h | h; exact (.inl h); exact (.inr h)) (by show 2 ≤ 3; decide)
    rw [← hG75]
    clear hG75
    obtain ⟨s75, r75⟩ := z75
    replace x71 := x71.same s75
    replace x72 := x72.same s75
    replace x73 := x73.same s75
    replace x74 := x74.same s75
    replace R := R.ks (Ks.of s75)
    replace sT := Same.trans sT s75
    clear s75
    refine ⟨_, rfl, _, rfl, e74, _, _, _, rfl, (ES.up 21 (by decide)).2.2.2, ES.e_MayConflict.no "text" (by simp), x74, rfl, szB (by show 1 ≤ 1000000; decide), fun u76 hu76 => ?_⟩
    refine ⟨_, rfl, szB (by show 1 ≤ 1000000; decide), fun d76 hd76 => ?_⟩
    refine ⟨szB (by show 4 ≤ 1000000; decide), fun t76 ht76 => ?_⟩
    obtain ⟨G76, hG76⟩ : ∃ G, G = upd (upd (upd G75 u76 (.lst [a])) d76 (.lst [a])) t76 (.tup [.int 21, .ref e74, .ref u76, .ref d76]) := ⟨_, rfl⟩
    have z76 : Same G75 G76 ∧ RowAt cs0 (fun x => x = a ∨ x = b) G76 (.ref t76) := by rw [hG76]; exact rowAt_of (VS := fun x => x = a ∨ x = b) (n := 21) (by decide) x74 hu76 hd76 ht76 (by intro x h; simp only [List.mem_cons, List.not_mem_nil, or_false] at h; exact (.inl h)) (by show 1 ≤ 3; decide)
    rw [← hG76]
    clear hG76
    obtain ⟨s76, r76⟩ := z76
    replace x71 := x71.same s76
    replace x72 := x72.same s76
    replace x73 := x73.same s76
    replace x74 := x74.same s76
    replace r75 := r75.ks (Ks.of s76)
    replace R := R.ks (Ks.of s76)
    replace sT := Same.trans sT s76
    clear s76
    refine ⟨szB (by show 2 ≤ 1000000; decide), fun p77 hp77 => ?_⟩
    have w77 := RowsAt.new hp77 (xs := [.ref t75, .ref t76]) (by intro v hv; simp only [List.mem_cons, List.not_mem_nil, or_false] at hv; rcases hv with rfl | rfl; exact r75; exact r76)
    have q77 : Same _ _ := same_new (fun _ _ z => z) hp77 (.lst [V.ref t75, V.ref t76])
    replace x71 := x71.same q77
    replace x72 := x72.same q77
    replace x73 := x73.same q77
    replace x74 := x74.same q77
    replace R := R.ks (Ks.of q77)
    replace sT := Same.trans sT q77
    obtain ⟨G77, hG77⟩ : ∃ G, G = upd G76 p77 (.lst [V.ref t75, V.ref t76]) := ⟨_, rfl⟩
    rw [← hG77] at w77 sT x71 x72 x73 x74 R
    rw [← hG77]
    clear q77 hG77
    refine cat_step R w77 (by show 12 ≤ 1000; decide) fun p78 H78 s78 R => ?_
    replace x71 := x71.same s78
    replace x72 := x72.same s78
    replace x73 := x73.same s78
    replace x74 := x74.same s78
    replace sT := Same.trans sT s78
    clear s78
    exact ⟨_, _, _, _, _, rfl, sT, x71, x72, x73, x74, R⟩
  rintro σ2 H79 ⟨e80, e81, e82, e83, yf, rfl, sT2, x80, x81, x82, x83, R2⟩
  clear x71 x72 x73 x74 R sT
  have sT := sT2; clear sT2
  have R := R2; clear R2
  refine ⟨fun σ2 H2 => ∃ y80 y81 y82 y83 yf : Addr, σ2 = [some a, some b, some (.ref y80), some (.ref y81), some (.ref y82), some (.ref y83), some (.ref yf)] ∧ Same H H2 ∧ ExAt H2 y80 (cs0.getD 18 0) ((["number"] : List Str).zip [a]).reverse ∧ ExAt H2 y81 (cs0.getD 19 0) ((["text"] : List Str).zip [a]).reverse ∧ ExAt H2 y82 (cs0.getD 20 0) ((["start", "stop"] : List Str).zip [a, b]).reverse ∧ ExAt H2 y83 (cs0.getD 21 0) ((["text"] : List Str).zip [a]).reverse ∧ RowsAt cs0 (fun x => x = a ∨ x = b) H2 yf 15, ?_, ?_⟩
  · skip
    refine ⟨_, rfl, ?_⟩
    refine ⟨rfl, fun e84 H84 _ s84 _ x84 => ?_⟩
    replace x80 := x80.same s84
    replace x81 := x81.same s84
    replace x82 := x82.same s84
    replace x83 := x83.same s84
    replace R := R.ks (Ks.of s84)
    replace sT := Same.trans sT s84
    clear s84
    refine ⟨szB (Nat.zero_le _), fun u84 hu84 => ?_⟩
    refine ⟨szB (Nat.zero_le _), fun d84 hd84 => ?_⟩
    refine ⟨szB (by show 4 ≤ 1000000; decide), fun t84 ht84 => ?_⟩
    obtain ⟨G84, hG84⟩ : ∃ G, G = upd (upd (upd H84 u84 (.lst [])) d84 (.lst [])) t84 (.tup [.int 22, .ref e84, .ref u84, .ref d84]) := ⟨_, rfl⟩
    have z84 : Same H84 G84 ∧ RowAt cs0 (fun x => x = a ∨ x = b) G84 (.ref t84) := by rw [hG84]; exact rowAt_of (VS := fun x => x = a ∨ x = b) (n := 22) (by decide) x84 hu84 hd84 ht84 (fun _ h => nomatch h) (by decide)
    rw [← hG84]
    clear hG84
    obtain ⟨s84, r84⟩ := z84
    replace x80 := x80.same s84
    replace x81 := x81.same s84
    replace x82 := x82.same s84
    replace x83 := x83.same s84
    replace R := R.ks (Ks.of s84)
    replace sT := Same.trans sT s84
    clear s84
    refine ⟨rfl, fun e85 H85 _ s85 _ x85 => ?_⟩
    replace x80 := x80.same s85
    replace x81 := x81.same s85
    replace x82 := x82.same s85
    replace x83 := x83.same s85
    replace r84 := r84.ks (Ks.of s85)
    replace R := R.ks (Ks.of s85)
    replace sT := Same.trans sT s85
    clear s85
    refine ⟨szB (Nat.zero_le _), fun u85 hu85 => ?_⟩
    refine ⟨szB (Nat.zero_le _), fun d85 hd85 => ?_⟩
    refine ⟨szB (by show 4 ≤ 1000000; decide), fun t85 ht85 => ?_⟩
    obtain ⟨G85, hG85⟩ : ∃ G, G = upd (upd (upd H85 u85 (.lst [])) d85 (.lst [])) t85 (.tup [.int 23, .ref e85, .ref u85, .ref d85]) := ⟨_, rfl⟩
    have z85 : Same H85 G85 ∧ RowAt cs0 (fun x => x = a ∨ x = b) G85 (.ref t85) := by rw [hG85]; exact rowAt_of (VS := fun x => x = a ∨ x = b) (n := 23) (by decide) x85 hu85 hd85 ht85 (fun _ h => nomatch h) (by decide)
    rw [← hG85]
    clear hG85
    obtain ⟨s85, r85⟩ := z85
    replace x80 := x80.same s85
    replace x81 := x81.same s85
    replace x82 := x82.same s85
    replace x83 := x83.same s85
    replace r84 := r84.ks (Ks.of s85)
    replace R := R.ks (Ks.of s85)
    replace sT := Same.trans sT s85
    clear s85
    refine ⟨rfl, fun e86 H86 _ s86 _ x86 => ?_⟩
    replace x80 := x80.same s86
    replace x81 := x81.same s86
    replace x82 := x82.same s86
    replace x83 := x83.same s86
    replace r84 := r84.ks (Ks.of s86)
    replace r85 := r85.ks (Ks.of s86)
    replace R := R.ks (Ks.of s86)
    replace sT := Same.trans sT s86
    clear s86
    refine ⟨szB (Nat.zero_le _), fun u86 hu86 => ?_⟩
    refine ⟨szB (Nat.zero_le _), fun d86 hd86 => ?_⟩
    refine ⟨szB (by show 4 ≤ 1000000; decide), fun t86 ht86 => ?_⟩
    obtain ⟨G86, hG86⟩ : ∃ G, G = upd (upd (upd H86 u86 (.lst [])) d86 (.lst [])) t86 (.tup [.int 24, .ref e86, .ref u86, .ref d86]) := ⟨_, rfl⟩
    have z86 : Same H86 G86 ∧ RowAt cs0 (fun x => x = a ∨ x = b) G86 (.ref t86) := by rw [hG86]; exact rowAt_of (VS := fun x => x = a ∨ x = b) (n := 24) (by decide) x86 hu86 hd86 ht86 (fun _ h => nomatch h) (by decide)
    rw [← hG86]
    clear hG86
    obtain ⟨s86, r86⟩ := z86
    replace x80 := x80.same s86
    replace x81 := x81.same s86
    replace x82 := x82.same s86
    replace x83 := x83.same s86
    replace r84 := r84.ks (Ks.of s86)
    replace r85 := r85.ks (Ks.of s86)
    replace R := R.ks (Ks.of s86)
    replace sT := Same.trans sT s86
    clear s86
    refine ⟨szB (by show 3 ≤ 1000000; decide), fun p87 hp87 => ?_⟩
    have w87 := RowsAt.new hp87 (xs := [.ref t84, .ref t85, .ref t86]) (by intro v hv; simp only [List.mem_cons, List.not_mem_nil, or_false] at hv; rcases hv with rfl | rfl | rfl; exact r84; exact r85; exact r86)
    have q87 : Same _ _ := same_new (fun _ _ z => z) hp87 (.lst [V.ref t84, V.ref t85, V.ref t86])
    replace x80 := x80.same q87
    replace x81 := x81.same q87
    replace x82 := x82.same q87
    replace x83 := x83.same q87
    replace R := R.ks (Ks.of q87)
    replace sT := Same.trans sT q87
    obtain ⟨G87, hG87⟩ : ∃ G, G = upd G86 p87 (.lst [V.ref t84, V.ref t85, V.ref t86]) := ⟨_, rfl⟩
    rw [← hG87] at w87 sT x80 x81 x82 x83 R
    rw [← hG87]
    clear q87 hG87
    refine cat_step R w87 (by show 15 ≤ 1000; decide) fun p88 H88 s88 R => ?_
    replace x80 := x80.same s88
    replace x81 := x81.same s88
    replace x82 := x82.same s88
    replace x83 := x83.same s88
    replace sT := Same.trans sT s88
    clear s88
    exact ⟨_, _, _, _, _, rfl, sT, x80, x81, x82, x83, R⟩
  rintro σ2 H89 ⟨e90, e91, e92, e93, yf, rfl, sT2, x90, x91, x92, x93, R2⟩
  clear x80 x81 x82 x83 R sT
  have sT := sT2; clear sT2
  have R := R2; clear R2
  refine ⟨_, rfl, ?_⟩
  refine ⟨rfl, fun e94 H94 _ s94 _ x94 => ?_⟩
  replace x90 := x90.same s94
  replace x91 := x91.same s94
  replace x92 := x92.same s94
  replace x93 := x93.same s94
  replace R := R.ks (Ks.of s94)
  replace sT := Same.trans sT s94
  clear s94
  refine ⟨szB (Nat.zero_le _), fun u94 hu94 => ?_⟩
  refine ⟨szB (Nat.zero_le _), fun d94 hd94 => ?_⟩
  refine ⟨szB (by show 4 ≤ 1000000; decide), fun t94 ht94 => ?_⟩
  obtain ⟨G94, hG94⟩ : ∃ G, G = upd (upd (upd H94 u94 (.lst [])) d94 (.lst [])) t94 (.tup [.int 25, .ref e94, .ref u94, .ref d94]) := ⟨_, rfl⟩
  have z94 : Same H94 G94 ∧ RowAt cs0 (fun x => x = a ∨ x = b) G94 (.ref t94) := by rw [hG94]; exact rowAt_of (VS := fun x => x = a ∨ x = b) (n := 25) (by decide) x94 hu94 hd94 ht94 (fun _ h => nomatch h) (by decide)
  rw [← hG94]
  clear hG94
  obtain ⟨s94, r94⟩ := z94
  replace x90 := x90.same s94
  replace x91 := x91.same s94
  replace x92 := x92.same s94
  replace x93 := x93.same s94
  replace R := R.ks (Ks.of s94)
  replace sT := Same.trans sT s94
  clear s94
  refine ⟨szB (by show 1 ≤ 1000000; decide), fun p95 hp95 => ?_⟩
  have w95 := RowsAt.new hp95 (xs := [.ref t94]) (by intro v hv; simp only [List.mem_cons, List.not_mem_nil, or_false] at hv; rcases hv with rfl; exact r94)
  have q95 : Same _ _ := same_new (fun _ _ z => z) hp95 (.lst [V.ref t94])
  replace x90 := x90.same q95
  replace x91 := x91.same q95
  replace x92 := x92.same q95
  replace x93 := x93.same q95
  replace R := R.ks (Ks.of q95)
  replace sT := Same.trans sT q95
  obtain ⟨G95, hG95⟩ : ∃ G, G = upd G94 p95 (.lst [V.ref t94]) := ⟨_, rfl⟩
  rw [← hG95] at w95 sT x90 x91 x92 x93 R
  rw [← hG95]
  clear q95 hG95
  refine cat_step R w95 (by show 16 ≤ 1000; decide) fun p96 H96 s96 R => ?_
  replace x90 := x90.same s96
  replace x91 := x91.same s96
  replace x92 := x92.same s96
  replace x93 := x93.same s96
  replace sT := Same.trans sT s96
  clear s96
  exact q _ _ sT R

end
end Vf

set_option maxRecDepth 100000
set_option maxHeartbeats 4000000
namespace Vf
open PySem PySem.Spec PyProof.Rows L2 SX
section
variable {P : Program} {w : World} {K : PySem.W.Frag} {mg : Str → Option Value} {base : Heap}
def sp_law (K : PySem.W.Frag) : Sp := fun vs H Q _ => ∃ (a : Addr) (ns : List Int), vs = [.ref a] ∧ SqL K H a (ns.map V.int) ∧ ns.length ≤ 63 ∧ ∀ H', Q (.bl true) H'
section
variable {H H1 : Hp}
mutual
theorem dp_ks (k : Ks H H1) : ∀ {v : V} {d : PyData}, Dp K H v d → Dp K H1 v d
  | _, _, .non => .non
  | _, _, .bl b => .bl b
  | _, _, .int i => .int i
  | _, _, .str x => .str x
  | _, _, .lst h a => .lst (k.seq h) (dpAll_ks k a)
  | _, _, .tup h a => .tup (k.seqT h) (dpAll_ks k a)
theorem dpAll_ks (k : Ks H H1) : ∀ {vs : List V} {ds : List PyData}, DpAll K H vs ds → DpAll K H1 vs ds
  | _, _, .nil => .nil
  | _, _, .cons h t => .cons (dp_ks k h) (dpAll_ks k t)
end
end
/-- a value that repr can tell in few signs -/
def Shows (K : PySem.W.Frag) (H : Hp) (v : V) : Prop := ∃ d : PyData, Dp K H v d ∧ d.showable = true ∧ d.hasDict = false ∧ d.depth ≤ 3 ∧ d.shown.length ≤ 2000
theorem Shows.ks {H H1 : Hp} {v : V} (h : Shows K H v) (k : Ks H H1) : Shows K H1 v := by
  obtain ⟨d, h1, h2⟩ := h
  exact ⟨d, dp_ks k h1, h2⟩
theorem tf_ub : ∀ (ts : List Str) (k : Nat) (acc : Str), (textFrom k acc ts).length ≤ acc.length + (ts.map fun t => t.length + 2).sum
  | [], k, acc => Nat.le_refl _
  | t :: r, k, acc => by
    have h := tf_ub r (k + 1) (acc ++ (if k > 0 then ", " else "" : String) ++ t)
    have e : (acc ++ (if k > 0 then ", " else "" : String) ++ t).length ≤ acc.length + 2 + t.length := by
      rw [strLen_append, strLen_append]
      have : (Str.ofString (if k > 0 then ", " else "" : String)).length ≤ 2 := by
        by_cases z : k > 0
        · rw [if_pos z]; decide +kernel
        · rw [if_neg z]; decide +kernel
      omega
    rw [List.map_cons, List.sum_cons]
    exact Nat.le_trans h (by omega)
theorem shows_all {H : Hp} : ∀ {vs : List V}, (∀ v ∈ vs, Shows K H v) → ∃ ds, DpAll K H vs ds ∧ PyData.showableAll ds = true ∧ PyData.hasDictAll ds = false ∧ PyData.depthAll ds ≤ 3 ∧ ((PyData.shownAll ds).map fun t => t.length + 2).sum ≤ 2002 * vs.length
  | [], _ => ⟨[], .nil, by simp [PyData.showableAll], by simp [PyData.hasDictAll], by simp [PyData.depthAll], by simp [PyData.shownAll]⟩
  | v :: vs, h => by
    obtain ⟨ds, a1, a2, a3, a4, a5⟩ := shows_all (vs := vs) fun u hu => h u (List.mem_cons_of_mem _ hu)
    obtain ⟨d, b1, b2, b3, b4, b5⟩ := h v (List.mem_cons_self ..)
    refine ⟨d :: ds, .cons b1 a1, by simp [PyData.showableAll, b2, a2], by simp [PyData.hasDictAll, b3, a3], by simp only [PyData.depthAll]; omega, ?_⟩
    simp only [PyData.shownAll, List.map_cons, List.sum_cons, List.length_cons]
    omega
/-- a list of few such values -/
theorem shows_list {H : Hp} {t : Addr} {vs : List V} (ht : H t = some (.lst vs)) (h : ∀ v ∈ vs, Shows K H v) (hl : vs.length ≤ 3) : ∃ d : PyData, (∀ u : Addr, H u = some (.lst vs) → Dp K H (.ref u) d) ∧ d.showable = true ∧ d.hasDict = false ∧ d.depth ≤ 40 ∧ d.shown.length ≤ sizeLine := by
  obtain ⟨ds, a1, a2, a3, a4, a5⟩ := shows_all h
  refine ⟨.list ds, fun u hu => .lst (SqL.of hu) a1, by simp only [PyData.showable]; exact a2, by simp only [PyData.hasDict]; exact a3, by simp only [PyData.depth]; omega, ?_⟩
  simp only [PyData.shown]
  have h1 := tf_ub (PyData.shownAll ds) 0 (Str.ofString "[")
  have e : (listText (PyData.shownAll ds)).length = (textFrom 0 "[" (PyData.shownAll ds)).length + 1 := strLen_append _ _
  rw [e]
  have e1 : (Str.ofString "[").length = 1 := by decide +kernel
  have e2 : (1000000 : Nat) ≤ sizeLine := by decide
  show (textFrom 0 (Str.ofString "[") (PyData.shownAll ds)).length + 1 ≤ sizeLine
  omega
theorem shows_str {H : Hp} {t : List Nat} (h : ∀ z ∈ t, z < 1000) (hl : t.length ≤ 100) : Shows K H (.str (S t)) := by
  refine ⟨.str (S t), .str _, by simp [PyData.showable], by simp [PyData.hasDict], by simp [PyData.depth], ?_⟩
  simp only [PyData.shown]
  have := PySem.StrLaws.reprText_len (S t) (fun c hc => Nat.lt_trans (h c (by simpa using hc)) (by decide))
  have e : (S t).length = t.length := S_len t
  omega
theorem shows_int {H : Hp} {i : Int} (h : i.natAbs.log2 < 1920) : Shows K H (.int i) := by
  refine ⟨.int i, .int _, by simp only [PyData.showable]; exact decide_eq_true h, by simp [PyData.hasDict], by simp [PyData.depth], ?_⟩
  simp only [PyData.shown]
  exact Nat.le_trans (PyProof.Rows.int_text_len_1921 h) (by decide)
theorem shows_non {H : Hp} : Shows K H .non := ⟨.none, .non, by simp [PyData.showable], by simp [PyData.hasDict], by simp [PyData.depth], by decide +kernel⟩
theorem shows_tup {H : Hp} {tp : Addr} (h : H tp = some (.tup [.str "a", .int 1])) : Shows K H (.ref tp) :=
  ⟨.tuple [.str "a", .int 1], .tup (SqT.of h) (.cons (.str _) (.cons (.int _) .nil)), by decide +kernel, by decide +kernel, by decide +kernel, by decide +kernel⟩
theorem shows_lst {H : Hp} {tp : Addr} (h : H tp = some (.lst [.int 5])) : Shows K H (.ref tp) :=
  ⟨.list [.int 5], .lst (SqL.of h) (.cons (.int _) .nil), by decide +kernel, by decide +kernel, by decide +kernel, by decide +kernel⟩
theorem eqv_nat (i : Nat) : (!PyData.eqv (.list [.int (i : Int)]) (.list [.int (i : Int)])) = false := by
  simp [PyData.eqv, PyData.eqvAll]
theorem lc_penK {p c : Addr} {m0 n s : Nat} {te : TE} {k : Nat} {σ : L2.St} {H1 : Hp} {D : Addr} {Qd : Hp → Prop} (R : V → Hp → Prop) (stab : ∀ v H H', Tk H H' → R v H → R v H') (hk : k < σ.length) (hD : H1 D = none) (hp : PenAt H1 p c m0) (hn : n ≤ 1000000)
    (hs : ∀ (i : Nat) (H : Hp) (m : Nat) (Q : VK), i < n → Ks H1 H → PenAt H p c m → m ≤ m0 + i * s → (∀ (H' : Hp) (v : V), Ks H H' → PenAt H' p c (m + s) → R v H' → Q v H') → te ((wipe σ [k]).set k (some (.int ((0 : Int) + i)))) H Q)
    (hd : ∀ (H : Hp) (xs : List V), xs.length = n → (∀ v ∈ xs, R v H) → H D = some (.lst xs) → Ks H1 H → PenAt H p c (m0 + n * s) → Qd H) :
    ∃ W : Nat → Nat → Hp → Prop, (∃ m, W 0 m (upd H1 D (.lst []))) ∧ ∀ i m H, W i m H →
      ((Itr 0 n).stop i H ∧ Qd H) ∨ ((Itr 0 n).go i H ∧ ∃ Nx : Hp → Prop, (∀ H', Nx H' → ∃ m', m' < m ∧ W (i + 1) m' H') ∧ ∀ x H', (Itr 0 n).yld i H x H' → gName k x (wipe σ [k]) H' fun σ2 H2 => wipe σ2 [k] = wipe σ [k] ∧ tYes σ2 H2 fun b H3 =>
        if b = true then te σ2 H3 fun y H4 => ∃ acc, H4 D = some (.lst acc) ∧ acc.length < sizeLine ∧ Nx (upd H4 D (.lst (acc ++ [y]))) else Nx H3) := by
  have nD := hp.ne hD
  refine lc_range (lo := 0) (n := n) (fun i H => ∃ xs : List V, xs.length = i ∧ (∀ v ∈ xs, R v H) ∧ H D = some (.lst xs) ∧ Ks H1 H ∧ PenAt H p c (m0 + i * s)) ?_ ?_ ?_
  · exact ⟨[], rfl, (fun _ h => nomatch h), upd_same, Ks.new1 hD _, by rw [Nat.zero_mul]; exact hp.new hD⟩
  · rintro i H hi ⟨xs, e1, e2, e3, e4, e5⟩
    refine ⟨?_, ?_⟩
    · show ((σ.set k none).set k _).set k none = (σ.set k none)
      rw [List.set_set, List.set_set]
    · dsimp only [tYes]
      rw [if_pos rfl]
      refine hs i H _ _ hi e4 e5 (Nat.le_refl _) (fun H' v k1 k2 k3 => ?_)
      refine ⟨xs, k1.lst e3, szL (by omega), xs ++ [v], by rw [List.length_append, e1]; rfl, fun u hu => ?_, upd_same, (e4.trans k1).upd hD _, ?_⟩
      · have tk : Tk H' (upd H' D (.lst (xs ++ [v]))) := (Tk.refl H').lst (k1.lst e3)
        rcases List.mem_append.mp hu with hu | hu
        · exact stab _ _ _ (k1.tk.trans tk) (e2 u hu)
        · rw [List.mem_singleton.mp hu]
          exact stab _ _ _ tk k3
      · rw [Nat.succ_mul, ← Nat.add_assoc]
        exact k2.upd nD.1 nD.2
  · rintro H ⟨xs, e1, e2, e3, e4, e5⟩
    exact hd H xs e1 e2 e3 e4 e5
set_option maxHeartbeats 0
theorem ok_law {f : Addr} {fd : FuncData} (F : C8.Def K mg "law" s_law f fd) (T : Tx K w mg) (C_pen : C8.Cal P w K mg base 1 "_law_pen" (sp_pen K) []) (C_lawWord : C8.Cal P w K mg base 3 "_law_word" sp_lawWord []) (C_draw : C8.Cal P w K mg base 1 "_law_draw" sp_draw []) (C_pick : C8.Cal P w K mg base 2 "_law_pick" sp_pick []) (C_firstErrors : C8.Cal P w K mg base 3 "_law_first_errors" (sp_firstErrors cs0) []) (C_otherErrors : C8.Cal P w K mg base 3 "_law_other_errors" (sp_otherErrors cs0) []) (C_told : C8.Cal P w K mg base 1 "_law_told" (sp_told K cs0) []) (C_areLinesRight : C8.Cal P w K mg base 4 "_law_are_lines_right" sp_areLinesRight []) (C_areSignsRight : C8.Cal P w K mg base 4 "_law_are_signs_right" sp_areSignsRight []) : RunAt P w K mg base callerA f fd ["_law_script"] (sp_law K) := by
  have hR : Room 6 callerA := ⟨rfl, by decide, by decide⟩
  refine runAt_of (k := 5) F.fn sc_law (fun vs H Q E h => ?_) hR (fun cdv out s H vs Q h => ?_)
  · obtain ⟨a, ns, rfl, _⟩ := h; rfl
  have hr : Room 5 (callerA.deeper (envOfC "law" (C8.fnScope s_law) s.heap.objs.size f cdv)) := hR.deeper _
  have hu := hu_of hr
  have hu64 := hr.units
  refine ⟨_, (pss_cons (ps_set (i := 1) sc_law.nd rfl (Or.inr rfl) (C8.pe_c C_pen hr (by decide) rfl (pa_cons (pv 0) pa_nil)))
      (pss_cons (ps_for PassesOwn.never rfl (pi_range1 (by rfl) T.z_range (pa_cons (pe_op op_add pe_int (pe_callB (call_min2 rfl) (by rfl) T.z_min (by decide +kernel) (pa_cons pe_int (pa_cons (pe_callB call_len (by rfl) T.z_len PySem.boot_len (pa_cons (pv 0) pa_nil)) pa_nil)))) pa_nil)) (pg_name (i := 2) sc_law.nd rfl (Or.inl rfl))
      (pss_cons (ps_set (i := 3) sc_law.nd rfl (Or.inr rfl) (pe_lst (pa_cons (C8.pe_c C_draw hr (by decide) rfl (pa_cons (pv 1) (pa_cons (pe_op op_pow pe_int pe_int) pa_nil))) (pa_cons pe_str (pa_cons pe_non (pa_cons (pe_tup (pa_cons pe_str (pa_cons pe_int pa_nil))) (pa_cons (C8.pe_c C_lawWord hr (by decide) rfl (pa_cons (pv 1) (pa_cons pe_str (pa_cons pe_int pa_nil)))) (pa_cons (pe_lst (pa_cons pe_int pa_nil)) (pa_cons (pe_op op_pow pe_int pe_int) pa_nil)))))))))
      (pss_cons (ps_asg (pe_lc (own := [("_law_k", 11)]) (g := (gName 11)) (tt := tYes) rfl sc_law.nd (pi_range1 (by rfl) T.z_range (pa_cons pe_int pa_nil)) (blkOk_by (N := N_law) (sc := C8.fnScope s_law) (by decide +kernel)) (fun _ _ _ _ _ => pg_name (i := 11) sc_law.nd rfl (Or.inl rfl)) (fun _ _ _ _ _ => pts_nil) (fun _ _ _ _ _ => (C8.pe_c C_pick hr (by decide) rfl (pa_cons (pv 1) (pa_cons (pv 3) pa_nil))))) (pg_lst (by rfl) (pgs_cons (pg_name (i := 4) sc_law.nd rfl (Or.inl rfl)) (pgs_cons (pg_name (i := 5) sc_law.nd rfl (Or.inl rfl)) (pgs_cons (pg_name (i := 6) sc_law.nd rfl (Or.inl rfl)) pgs_nil)))))
      (pss_cons (ps_for PassesOwn.never rfl (pi_list (pe_op op_cat (C8.pe_c C_firstErrors hr (by decide) rfl (pa_cons (pv 4) (pa_cons (pv 5) (pa_cons (pv 6) pa_nil)))) (C8.pe_c C_otherErrors hr (by decide) rfl (pa_cons (pv 4) (pa_cons (pv 5) pa_nil))))) (pg_tup rfl (pgs_cons (pg_name (i := 7) sc_law.nd rfl (Or.inl rfl)) (pgs_cons (pg_name (i := 8) sc_law.nd rfl (Or.inl rfl)) (pgs_cons (pg_name (i := 9) sc_law.nd rfl (Or.inl rfl)) (pgs_cons (pg_name (i := 10) sc_law.nd rfl (Or.inl rfl)) pgs_nil)))))
      (pss_one (ps_if (PW.pt (pw_or (pt_cmpR (op_neD hr.units) (C8.pe_c C_told hr (by decide) rfl (pa_cons (pv 8) pa_nil)) (pe_lst (pa_cons (pv 7) pa_nil)) (nomark _)) (pw_or1 (pt_cmpR op_ne (pe_callB (call_reprD rfl hu64) (by rfl) T.z_repr (by decide +kernel) (pa_cons (pv 9) pa_nil)) (pe_callB (call_reprD rfl hu64) (by rfl) T.z_repr (by decide +kernel) (pa_cons (pv 10) pa_nil)) (nomark _)))))
      (pss_one (ps_ret pe_bl))
      pss_nil)))
      (pss_one (ps_if (PW.pt (pw_or (pt_not (pt_val (C8.pe_c C_areSignsRight hr (by decide) rfl (pa_cons (pv 1) pa_nil)))) (pw_or1 (pt_not (pt_val (C8.pe_c C_areLinesRight hr (by decide) rfl (pa_cons (pv 1) pa_nil)))))))
      (pss_one (ps_ret pe_bl))
      pss_nil))))))
      (pss_one (ps_ret pe_bl)))), ?_⟩

  obtain ⟨a, ns, rfl, hS, hl63, q⟩ := h
  refine ⟨_, rfl, a, ns, rfl, hS, hl63, fun H0 p c ks0 hp0 => ?_⟩
  have eN : (2 : Int) + (if (ns.length : Int) < 3 then (ns.length : Int) else 3) = ((2 + min 3 ns.length : Nat) : Int) := by split <;> omega
  refine ⟨_, rfl, _, ns.length, rfl, .inl ⟨_, ks0.seq hS, by rw [List.length_map]⟩, _, _, rfl, _, _, rfl, rfl, _, congrArg (fun z => [V.int z]) eN, by omega, by omega, ?_⟩
  rw [show (((2 + min 3 ns.length : Nat) : Int)).toNat = 2 + min 3 ns.length from Int.toNat_natCast _]
  refine for_it walk_range (fun i σ' H' => ∃ v2 v3 v4 v5 v6 v7 v8 v9 v10, σ' = [some (.ref a), some (.ref p), v2, v3, v4, v5, v6, v7, v8, v9, v10, none] ∧ PenAt H' p c (i * 100)) ?_ (fun _ _ _ _ _ => trivial) (fun i x σ' H2 H3 hi e y => ?_) (fun σ' H2 e => q _)
  · exact ⟨_, _, _, _, _, _, _, _, _, rfl, hp0⟩
  obtain ⟨rfl, rfl⟩ := y
  obtain ⟨v2, v3, v4, v5, v6, v7, v8, v9, v10, rfl, hp⟩ := e
  have hi5 : i < 5 := by omega
  -- the lot of values
  refine ⟨_, rfl, _, _, rfl, rfl, ⟨by decide, by decide, by decide⟩, p, c, i * 100, 1000000, rfl, hp, by omega, by decide, by decide, fun H4 r k3 k4 hr4 => ?_⟩
  refine ⟨sz_2, fun tp htp => ?_⟩
  have k5 : Ks H4 (upd H4 tp (.tup [V.str "a", V.int 1])) := Ks.new1 htp _
  have t5 : (upd H4 tp (.tup [V.str "a", V.int 1])) tp = some (.tup [V.str "a", V.int 1]) := upd_same
  have p5 : PenAt (upd H4 tp (.tup [V.str "a", V.int 1])) p c (i * 100 + 1) := k4.new htp
  generalize (upd H4 tp (.tup [V.str "a", V.int 1])) = H5 at k5 t5 p5 ⊢
  refine ⟨_, rfl, p, c, _, 4, [97, 98, 10], rfl, p5, by omega, by decide, by decide, by decide, by decide, fun H6 w k6 p6 w1 w2 w3 => ?_⟩
  refine ⟨sz_1, fun lp hlp => ?_⟩
  have k7 : Ks H6 (upd H6 lp (.lst [V.int 5])) := Ks.new1 hlp _
  have l7 : (upd H6 lp (.lst [V.int 5])) lp = some (.lst [V.int 5]) := upd_same
  have p7 : PenAt (upd H6 lp (.lst [V.int 5])) p c (i * 100 + 1 + 1 + 4) := p6.new hlp
  generalize (upd H6 lp (.lst [V.int 5])) = H7 at k7 l7 p7 ⊢
  refine ⟨_, _, rfl, rfl, ⟨by decide, by decide, by decide⟩, szB (by show 7 ≤ 1000000; decide), fun A0 hA => ?_⟩
  obtain ⟨xs, exs⟩ : ∃ xs : List V, xs = [V.int (r : Int), .str (S [97, 98]), .non, .ref tp, .str (S w), .ref lp, .int ((10 : Int) ^ (30 : Int).toNat)] := ⟨_, rfl⟩
  have t7 := k7.tup (k6.tup t5)
  have good7 : ∀ x ∈ xs, Shows K H7 x := by
    rw [exs]
    intro x hx
    simp only [List.mem_cons, List.not_mem_nil, or_false] at hx
    rcases hx with rfl | rfl | rfl | rfl | rfl | rfl | rfl
    · refine shows_int ?_
      rw [Int.natAbs_natCast]
      by_cases r0 : r = 0
      · rw [r0]; decide
      · exact Nat.lt_trans ((Nat.log2_lt r0).mpr (Nat.lt_of_lt_of_le hr4 (by decide : 1000000 ≤ 2 ^ 20))) (by decide)
    · exact shows_str (by decide) (by decide)
    · exact shows_non
    · exact shows_tup t7
    · refine shows_str (fun z hz => ?_) (by omega)
      have := w3 z hz
      simp only [List.mem_cons, List.not_mem_nil, or_false] at this
      omega
    · exact shows_lst l7
    · exact shows_int (by decide +kernel)
  have a8 : (upd H7 A0 (.lst xs)) A0 = some (.lst xs) := upd_same
  have p8 : PenAt (upd H7 A0 (.lst xs)) p c (i * 100 + 1 + 1 + 4) := p7.new hA
  have good8 : ∀ x ∈ xs, Shows K (upd H7 A0 (.lst xs)) x := fun x hx => (good7 x hx).ks (Ks.new1 hA _)
  have g8 : upd H7 A0 (.lst xs) = upd H7 A0 (.lst [V.int (r : Int), .str "ab", .non, .ref tp, .str (S w), .ref lp, .int ((10 : Int) ^ (30 : Int).toNat)]) := by rw [exs]; rfl
  have lx : xs.length = 7 := by rw [exs]; rfl
  refine (show gName 3 (V.ref A0) _ (upd H7 A0 (.lst [V.int (r : Int), .str "ab", .non, .ref tp, .str (S w), .ref lp, .int ((10 : Int) ^ (30 : Int).toNat)])) _ from ?_)
  rw [← g8]
  clear g8 exs
  generalize (upd H7 A0 (.lst xs)) = H8 at a8 p8 good8 ⊢
  -- three of them
  refine ⟨_, rfl, by decide, by decide, fun D hD => ?_⟩
  refine lc_penK (m0 := i * 100 + 1 + 1 + 4) (s := 1) (n := 3) (k := 11) (fun v _ => v ∈ xs) (fun _ _ _ _ h => h) (by show 11 < 12; decide) hD p8 (by decide) (fun j H9 m2 Q2 hj ks9 hp2 hm2 hq => ?_) (fun H9 ys e1 e2 e3 e4 e5 => ?_)
  · exact ⟨_, rfl, _, rfl, p, c, m2, _, rfl, hp2, by omega, .inr ⟨A0, xs, rfl, ks9.lst a8, by omega, by omega, fun H10 v j1 j2 j3 => hq H10 v j1 j2 j3⟩⟩
  match ys, e1 with
  | [av, bv, cv], _ =>
  have ga : Shows K H9 av := (good8 av (e2 _ (by simp))).ks e4
  have gb : Shows K H9 bv := (good8 bv (e2 _ (by simp))).ks e4
  have gc : Shows K H9 cv := (good8 cv (e2 _ (by simp))).ks e4
  clear e1 e2 good8 good7 a8 k3 k5 k6 k7
  refine ⟨D, _, rfl, SqL.of e3, rfl, _, _, rfl, _, _, rfl, _, _, rfl, rfl, ?_⟩
  -- the rows
  refine ⟨_, rfl, _, rfl, _, rfl, av, bv, cv, rfl, fun H10 r1 s1 R1 => ?_⟩
  refine ⟨_, rfl, _, rfl, av, bv, rfl, fun H11 r2 s2 R2 => ?_⟩
  have R1' := R1.ks (Ks.of s2)
  refine cat_step (VS := fun x => x = av ∨ x = bv ∨ x = cv) (m1 := 11) (m2 := 16) R1' ?_ (by omega) fun P1 H12 s3 R => ?_
  · obtain ⟨ys, y1, y2, y3⟩ := R2
    refine ⟨ys, y1, y2, fun v hv => ?_⟩
    obtain ⟨tp, e, t, d, n, vs, fs, h1, h2, h3, h4, h5, h6, h7, h8⟩ := y3 v hv
    exact ⟨tp, e, t, d, n, vs, fs, h1, h2, h3, h4, h5, h6, fun x hx => (h7 x hx).elim .inl fun z => .inr (.inl z), h8⟩
  have s4 : Same H9 H12 := Same.trans s1 (Same.trans s2 s3)
  have p12 := e5.same s4
  have good : ∀ x : V, (x = av ∨ x = bv ∨ x = cv) → Shows K H12 x := by
    rintro x (z | z | z)
    · rw [z]; exact ga.ks (Ks.of s4)
    · rw [z]; exact gb.ks (Ks.of s4)
    · rw [z]; exact gc.ks (Ks.of s4)
  obtain ⟨rows, hrows, hmany, hrow⟩ := R
  clear R1 R1' R2 ga gb gc s1 s2 s3 s4 e3 e4 e5
  refine ⟨P1, rfl, ⟨rows, SqL.of hrows⟩, ?_⟩
  refine for_it (walk_list (K := K) (a := P1) (xs := rows)) (fun j σ' H' => ∃ v7 v8 v9 v10, σ' = [some (.ref a), some (.ref p), some (.int (0 + (i : Int))), some (.ref A0), some av, some bv, some cv, v7, v8, v9, v10, none] ∧ Same H12 H') ?_ (fun j σ' H' _ e => ?_) (fun j x σ' H13 H14 hj e y => ?_) (fun σ' H13 e => ?_)
  · exact ⟨_, _, _, _, rfl, fun _ _ z => z⟩
  · obtain ⟨_, _, _, _, rfl, e1⟩ := e
    exact SqL.of (e1 _ _ hrows)
  · obtain ⟨rfl, hx⟩ := y
    obtain ⟨v7, v8, v9, v10, rfl, e1⟩ := e
    obtain ⟨tp, er, t, d, n, vs, fs, rfl, h2, h3, h4, h5, h6, h7, h8⟩ := (hrow x (List.mem_of_getElem? hx)).ks (Ks.of e1)
    refine ⟨tp, _, rfl, SqT.of h3, rfl, _, _, rfl, _, _, rfl, _, _, rfl, _, _, rfl, rfl, ?_⟩
    -- of which class it is
    refine ⟨_, rfl, er, n, fs, rfl, h2, h6, fun H15 r3 g1 g2 h15 => ?_⟩
    refine ⟨_, rfl, sz_1, fun l3 hl3 => ?_⟩
    have h15' : (upd H15 l3 (.lst [V.int (n : Int)])) r3 = some (.lst [V.int (n : Int)]) := by rw [upd_ne (ne_of_none h15 hl3)]; exact h15
    have g3 : Same H14 (upd H15 l3 (.lst [V.int (n : Int)])) := same_new g1 hl3 _
    have l15 : (upd H15 l3 (.lst [V.int (n : Int)])) l3 = some (.lst [V.int (n : Int)]) := upd_same
    generalize (upd H15 l3 (.lst [V.int (n : Int)])) = H16 at h15' g3 l15 ⊢
    refine ⟨.list [.int (n : Int)], .list [.int (n : Int)], .lst (SqL.of h15') (.cons (.int _) .nil), .lst (SqL.of l15) (.cons (.int _) .nil), rfl, rfl, _, rfl, ?_⟩
    rw [eqv_nat n]
    refine ifF ?_
    -- its fields
    obtain ⟨dd, b1, b2, b3, b4, b5⟩ := shows_list (K := K) (g3 _ _ h4) (fun v hv => (good v (h7 v hv)).ks (Ks.of (Same.trans e1 g3))) h8
    refine ⟨_, rfl, t, dd, rfl, b1 _ (g3 _ _ h4), b2, b3, b4, b5, ?_⟩
    refine ⟨_, rfl, d, dd, rfl, b1 _ (g3 _ _ h5), b2, b3, b4, b5, rfl, _, rfl, ?_⟩
    have e0 : (!decide (V.str dd.shown = V.str dd.shown)) = false := congrArg (!·) (decide_eq_true rfl)
    rw [e0]
    exact ifF ⟨_, _, _, _, rfl, Same.trans e1 g3⟩
  · obtain ⟨v7, v8, v9, v10, rfl, e1⟩ := e
    refine ⟨_, rfl, p, c, _, rfl, p12.same e1, by omega, fun H14 k3 k4 => ?_⟩
    refine ⟨true, rfl, ifF ?_⟩
    refine ⟨_, rfl, p, c, _, rfl, k4, by omega, fun H15 k5 k6 => ⟨true, rfl, ifF ?_⟩⟩
    exact ⟨_, _, _, _, _, _, _, _, _, rfl, k6.mono (by omega)⟩

end
end Vf

set_option maxRecDepth 100000
set_option maxHeartbeats 4000000
namespace Vf
open PySem PySem.Spec PyProof.Rows L2 SX
/-- a def of the module with how its arguments bind -/
def Dn (K : PySem.W.Frag) (mg : Str → Option Value) (x : Str) (st : Stmt) (ps : List Str) : Prop := ∃ (f : Addr) (fd : FuncData), C8.Def K mg x st f fd ∧ Binds K fd ps []
theorem useIt {A B : Prop} (h : A) (k : A → B) : B := k h
theorem useT {K : PySem.W.Frag} {h : Heap} {w : World} {mg : Str → Option Value} {B : Prop} (X : K.In h) (T : Tx K w mg) (k : Tx K w mg → B) : B := k T
section
variable {K : PySem.W.Frag} {h : Heap} {mg : Str → Option Value} {x : Str} {st : Stmt} {ps : List Str} {f d : Addr} {od an : Option Addr} {sl : Array (Option Value)} {oc kV dc pm cd ct : Value} {t : Tok} {w : World}
theorem dn_mk (X : K.In h) (G : h.Ns mainGlobals mg) (a : PySem.W.nsIn K mainGlobals x = some (some (.ref f)))
    (l : K.lookup f = some ⟨oc, od, .func (PySem.W.fnOf x x (C8.fnArgs st) (C8.fnBody st) (C8.fnScope st) .none kV dc pm an cd ct), sl⟩) (c : PySem.W.codeIn K cd x = true) (k : PySem.W.keepIn K (.ref f) = true)
    (hb : ∀ (kV doc pm : Value) (an : Option Addr) (cdv ct : Value) (us : List Value), us.length = ps.length → bindArgs (PySem.W.fnOf x x (C8.fnArgs st) (C8.fnBody st) (C8.fnScope st) .none kV doc pm an cdv ct) ⟨us, []⟩ = pure (ps.zip us)) : Dn K mg x st ps := by
  have F : C8.Fun K x x st f (PySem.W.fnOf x x (C8.fnArgs st) (C8.fnBody st) (C8.fnScope st) .none kV dc pm an cd ct) := ⟨oc, od, .none, kV, dc, pm, an, cd, ct, sl, rfl, l, c⟩
  exact ⟨f, _, ⟨F, PySem.W.mg_of X G a, k⟩, F.binds rfl hb⟩
theorem cst_str {n y : Str} {z : List Nat} (X : K.In h) (G : h.Ns mainGlobals mg) (a : PySem.W.nsIn K mainGlobals n = some (some (.str y t))) (e : y = S z) : ∃ u, mg n = some u ∧ RelV (.str (S z)) u :=
  ⟨_, PySem.W.mg_of X G a, ⟨t, by rw [e]⟩⟩
theorem cst_int {n : Str} {i : Int} (X : K.In h) (G : h.Ns mainGlobals mg) (a : PySem.W.nsIn K mainGlobals n = some (some (.int i t))) : ∃ u, mg n = some u ∧ RelV (.int i) u :=
  ⟨_, PySem.W.mg_of X G a, ⟨t, rfl⟩⟩
theorem cst_kd {n : Str} {es : Array DictEntry} {k : Nat} {g : Str → Option V} (X : K.In h) (G : h.Ns mainGlobals mg) (a : PySem.W.nsIn K mainGlobals n = some (some (.ref d))) (l : K.lookup d = some ⟨.type "dict", none, .dict es k, #[]⟩)
    (hk : PySem.W.KeysLit w.params es.toList) (low : (d == sysModules) = false) (hf : ∀ z, RelO (g z) (findBy Value.isStrOf es z)) : ∃ d, (∃ u, mg n = some u ∧ RelV (.ref d) u) ∧ KD K w d g :=
  ⟨d, ⟨_, PySem.W.mg_of X G a, rfl⟩, es, k, l, hk, low, hf⟩
theorem law_endG {P : Program} {fa : Addr} (X : K.In h) (G : h.Ns mainGlobals mg) (hfa : mg "law" = some (.ref fa)) (a : PySem.W.nsIn K mainGlobals "law" = some (some (.ref f)))
    (l : K.lookup f = some ⟨oc, od, .func (PySem.W.fnOf "law" "law" (C8.fnArgs s_law) (C8.fnBody s_law) (C8.fnScope s_law) .none kV dc pm an cd ct), sl⟩) (c : PySem.W.codeIn K cd "law" = true) (kp : PySem.W.keepIn K (.ref f) = true)
    (ok : ∀ (base : Heap) (fd : FuncData), C8.Def K mg "law" s_law f fd → RunAt P w K mg base callerA f fd ["_law_script"] (sp_law K)) :
    ∃ fd : FuncData, (∀ (s : Shared) (v : Value), BindsTo s fd ⟨[v], []⟩ [("_law_script", v)]) ∧ ∀ base : Heap, K.In base → base.Ns mainGlobals mg → RunAt P w K mg base callerA fa fd ["_law_script"] (sp_law K) := by
  have e := hfa.symm.trans (PySem.W.mg_of X G a)
  cases e
  exact ⟨_, fun s v => .of_eq rfl, fun base _ _ => ok base _ ⟨⟨oc, od, .none, kV, dc, pm, an, cd, ct, sl, rfl, l, c⟩, PySem.W.mg_of X G a, kp⟩⟩
end
/-! ### the classes -/
/-- the class above all of them -/
def Wc (K : PySem.W.Frag) (W : Addr) : Prop := PySem.W.isClsIn K W = true ∧ PySem.W.typeIn K (.ref W) = some (.type "type")
/-- a class just beneath it -/
def Cb (K : PySem.W.Frag) (C W : Addr) : Prop := PySem.W.typeIn K (.ref C) = some (.type "type") ∧ ∃ cd : ClassData, PySem.W.clsIn K C = some cd ∧ cd.mro = [.ref C, .ref W, .type "ValueError", .type "Exception", .type "BaseException", .type "object"]
def Mt (K : PySem.W.Frag) : Prop := PySem.W.specialIn K (.builtin "object.__class__") "__get__" = some (some (.builtin "getset_descriptor.__get__")) ∧ PySem.W.takesIn K (.builtin "object.__class__") = some true
structure Cc (K : PySem.W.Frag) (mg : Str → Option Value) (n : Str) (C W : Addr) : Prop where
  ec : Ec K mg n C
  b : Cb K C W
structure Kc (K : PySem.W.Frag) (mg : Str → Option Value) (n : Str) (C W : Addr) (fs : List Str) (st : Stmt) : Prop where
  c : Cc K mg n C W
  no : ∀ f ∈ fs, PySem.W.findIn K (.ref C) f = some none
  ne : fs ≠ []
  i : ∃ (fI : Addr) (fd : FuncData) (q : Str), PySem.W.findIn K (.ref C) "__init__" = some (some (.ref fI)) ∧ PySem.W.typeIn K (.ref fI) = some (.type "function") ∧ C8.Fun K "__init__" q st fI fd ∧ Binds K fd (("self" : Str) :: fs) []
structure Kc0 (K : PySem.W.Frag) (mg : Str → Option Value) (n : Str) (C W : Addr) : Prop where
  c : Cc K mg n C W
  x : PySem.W.excIn K C [.type "ValueError", .type "Exception", .type "BaseException", .type "object"] "ValueError.__new__" = true
section
variable {K : PySem.W.Frag} {h : Heap} {mg : Str → Option Value} {w : World}
theorem wc_mk {n : Str} {W : Addr} (X : K.In h) (G : h.Ns mainGlobals mg) (a : PySem.W.nsIn K mainGlobals n = some (some (.ref W))) (c : PySem.W.isClsIn K W = true) (k : PySem.W.typeIn K (.ref W) = some (.type "type")) :
    mg n = some (.ref W) ∧ Wc K W := ⟨PySem.W.mg_of X G a, c, k⟩
theorem mt_mk (_ : K.In h) (n : PySem.W.specialIn K (.builtin "object.__class__") "__get__" = some (some (.builtin "getset_descriptor.__get__"))) (t : PySem.W.takesIn K (.builtin "object.__class__") = some true) : Mt K := ⟨n, t⟩
theorem cl_mk {n : Str} {C W N : Addr} {nm q : Str} {bs : List Value} {sn : List Str} {sub : List Value} {ab : Bool} {col : Option Bool} {dd : Option Addr} {k0 k1 k2 k3 k5 : Option Value} (X : K.In h) (G : h.Ns mainGlobals mg) (_w : mg "WorkshopError" = some (.ref W) ∧ Wc K W) (M : Mt K)
    (a : PySem.W.nsIn K mainGlobals n = some (some (.ref C))) (l : K.lookup C = some (excClassObj nm q C N bs [.ref W, .type "ValueError", .type "Exception", .type "BaseException", .type "object"] true sn sub ab col dd k0 k1 k2 k3 k5 "ValueError.__new__"))
    (s : PySem.W.findIn K (.ref C) "__setattr__" = some (some (.builtin "object.__setattr__"))) (b : PySem.W.subIn K (.ref C) (.type "BaseException") = some true) (y : PySem.W.typeIn K (.ref C) = some (.type "type")) (k : PySem.W.keepIn K (.ref C) = true)
    (g : PySem.W.findIn K (.ref C) "__getattribute__" = some (some (.builtin "BaseException.__getattribute__"))) (hh : PySem.W.findIn K (.ref C) "__getattr__" = some none) (d : PySem.W.hasDictIn K C = true)
    (e : PySem.W.findIn K (.ref C) "__class__" = some (some (.builtin "object.__class__"))) (m : PySem.W.mroIn K C (.type "object") = some true) : Cc K mg n C W :=
  ⟨⟨PySem.W.mg_of X G a, ⟨⟨nm, q, N, bs, _, sn, sub, ab, col, dd, k0, k1, k2, k3, k5, l, rfl⟩, s, b, y, k⟩, ⟨g, hh, b, d, e, M.1, M.2, m⟩, ⟨g, hh, b, d⟩⟩, y, _, (by unfold PySem.W.clsIn; rw [show List.lookup C K = _ from l]), rfl⟩
section
variable {n : Str} {C W fI : Addr} {q f0 f1 f2 : Str} {st : Stmt} {ps : List Str} {oc kV dc pm cd ct : Value} {od an : Option Addr} {sl : Array (Option Value)}
theorem kc_mk {fs : List Str} (c : Cc K mg n C W) (ne : fs ≠ []) (no : ∀ f ∈ fs, PySem.W.findIn K (.ref C) f = some none) (i : PySem.W.findIn K (.ref C) "__init__" = some (some (.ref fI))) (t : PySem.W.typeIn K (.ref fI) = some (.type "function"))
    (l : K.lookup fI = some ⟨oc, od, .func (PySem.W.fnOf "__init__" q (C8.fnArgs st) (C8.fnBody st) (C8.fnScope st) .none kV dc pm an cd ct), sl⟩) (cc : PySem.W.codeIn K cd q = true)
    (hb : ∀ (kV doc pm : Value) (an : Option Addr) (cdv ct : Value) (us : List Value), us.length = (("self" : Str) :: fs).length → bindArgs (PySem.W.fnOf "__init__" q (C8.fnArgs st) (C8.fnBody st) (C8.fnScope st) .none kV doc pm an cdv ct) ⟨us, []⟩ = pure (List.zip (("self" : Str) :: fs) us)) : Kc K mg n C W fs st := by
  have F : C8.Fun K "__init__" q st fI (PySem.W.fnOf "__init__" q (C8.fnArgs st) (C8.fnBody st) (C8.fnScope st) .none kV dc pm an cd ct) := ⟨oc, od, .none, kV, dc, pm, an, cd, ct, sl, rfl, l, cc⟩
  exact ⟨c, no, ne, fI, _, q, i, t, F, F.binds rfl hb⟩
theorem kc_mk1 (c : Cc K mg n C W) (n0 : PySem.W.findIn K (.ref C) f0 = some none) (i : PySem.W.findIn K (.ref C) "__init__" = some (some (.ref fI))) (t : PySem.W.typeIn K (.ref fI) = some (.type "function"))
    (l : K.lookup fI = some ⟨oc, od, .func (PySem.W.fnOf "__init__" q (C8.fnArgs st) (C8.fnBody st) (C8.fnScope st) .none kV dc pm an cd ct), sl⟩) (cc : PySem.W.codeIn K cd q = true)
    (hb : ∀ (kV doc pm : Value) (an : Option Addr) (cdv ct : Value) (us : List Value), us.length = 2 → bindArgs (PySem.W.fnOf "__init__" q (C8.fnArgs st) (C8.fnBody st) (C8.fnScope st) .none kV doc pm an cdv ct) ⟨us, []⟩ = pure (List.zip [("self" : Str), f0] us)) : Kc K mg n C W [f0] st :=
  kc_mk c (fun z => nomatch z) (fun f hf => by rw [List.mem_singleton.mp hf]; exact n0) i t l cc hb
theorem kc_mk2 (c : Cc K mg n C W) (n0 : PySem.W.findIn K (.ref C) f0 = some none) (n1 : PySem.W.findIn K (.ref C) f1 = some none) (i : PySem.W.findIn K (.ref C) "__init__" = some (some (.ref fI))) (t : PySem.W.typeIn K (.ref fI) = some (.type "function"))
    (l : K.lookup fI = some ⟨oc, od, .func (PySem.W.fnOf "__init__" q (C8.fnArgs st) (C8.fnBody st) (C8.fnScope st) .none kV dc pm an cd ct), sl⟩) (cc : PySem.W.codeIn K cd q = true)
    (hb : ∀ (kV doc pm : Value) (an : Option Addr) (cdv ct : Value) (us : List Value), us.length = 3 → bindArgs (PySem.W.fnOf "__init__" q (C8.fnArgs st) (C8.fnBody st) (C8.fnScope st) .none kV doc pm an cdv ct) ⟨us, []⟩ = pure (List.zip [("self" : Str), f0, f1] us)) : Kc K mg n C W [f0, f1] st :=
  kc_mk c (fun z => nomatch z) (fun f hf => by
    simp only [List.mem_cons, List.not_mem_nil, or_false] at hf
    rcases hf with rfl | rfl <;> assumption) i t l cc hb
theorem kc_mk3 (c : Cc K mg n C W) (n0 : PySem.W.findIn K (.ref C) f0 = some none) (n1 : PySem.W.findIn K (.ref C) f1 = some none) (n2 : PySem.W.findIn K (.ref C) f2 = some none) (i : PySem.W.findIn K (.ref C) "__init__" = some (some (.ref fI))) (t : PySem.W.typeIn K (.ref fI) = some (.type "function"))
    (l : K.lookup fI = some ⟨oc, od, .func (PySem.W.fnOf "__init__" q (C8.fnArgs st) (C8.fnBody st) (C8.fnScope st) .none kV dc pm an cd ct), sl⟩) (cc : PySem.W.codeIn K cd q = true)
    (hb : ∀ (kV doc pm : Value) (an : Option Addr) (cdv ct : Value) (us : List Value), us.length = 4 → bindArgs (PySem.W.fnOf "__init__" q (C8.fnArgs st) (C8.fnBody st) (C8.fnScope st) .none kV doc pm an cdv ct) ⟨us, []⟩ = pure (List.zip [("self" : Str), f0, f1, f2] us)) : Kc K mg n C W [f0, f1, f2] st :=
  kc_mk c (fun z => nomatch z) (fun f hf => by
    simp only [List.mem_cons, List.not_mem_nil, or_false] at hf
    rcases hf with rfl | rfl | rfl <;> assumption) i t l cc hb
theorem kc_mk0 (c : Cc K mg n C W) (x : PySem.W.excIn K C [.type "ValueError", .type "Exception", .type "BaseException", .type "object"] "ValueError.__new__" = true) : Kc0 K mg n C W := ⟨c, x⟩
theorem ek_mk {P : Program} {base : Heap} {fs : List Str} (k : Kc K mg n C W fs st)
    (ok : ∀ {f : Addr} {fd : FuncData} {q : Str}, OexC K C → (∀ f ∈ fs, PySem.W.findIn K (.ref C) f = some none) → C8.Fun K "__init__" q st f fd → FnOk P w K mg base C8.CX0 1 f fd (("self" : Str) :: fs) (sp_init C fs)) : Ek P w K mg base n C fs := by
  obtain ⟨fI, fd, q, i, t, F, b⟩ := k.i
  exact ⟨k.c.ec, k.no, fun _ => ⟨fI, fd, _, i, t, ok k.c.ec.o k.no F, b⟩, fun z => absurd z k.ne⟩
theorem ek_mk0 {P : Program} {base : Heap} (k : Kc0 K mg n C W) : Ek P w K mg base n C [] := ⟨k.c.ec, fun _ z => (nomatch z), fun z => absurd rfl z, fun _ => k.x⟩
end
theorem vr (a b : Addr) : ((Value.ref a) == (Value.ref b)) = decide (a = b) := by
  by_cases e : a = b
  · subst e; rw [decide_eq_true rfl]; exact beq_self_eq_true _
  · rw [decide_eq_false e]; exact beq_eq_false_iff_ne.mpr fun z => e (by cases z; rfl)
theorem kit_two {C D W : Addr} (c : Cb K C W) (d : Cb K D W) (nW : D ≠ W) : PySem.W.kitOne K (.ref C) (.ref D) = some (decide (D = C)) := by
  obtain ⟨_, cd, c2, c3⟩ := c
  obtain ⟨d1, dd, d2, _⟩ := d
  unfold PySem.W.kitOne
  rw [vr]
  by_cases e : C = D
  · subst e; rw [if_pos (decide_eq_true rfl), decide_eq_true rfl]
  · rw [decide_eq_false e, if_neg Bool.false_ne_true, decide_eq_false fun z => e z.symm]
    unfold PySem.W.kitCls
    dsimp only
    rw [if_pos (by rw [d2, d1]; rfl)]
    show PySem.W.mroIn K C (.ref D) = _
    unfold PySem.W.mroIn
    rw [c2]
    show (if cd.mro.isEmpty = true then none else some (cd.mro.contains (.ref D))) = _
    rw [c3]
    show some (List.contains [Value.ref C, Value.ref W, Value.type "ValueError", Value.type "Exception", Value.type "BaseException", Value.type "object"] (Value.ref D)) = _
    have q : ∀ z : String, ((Value.ref D) == (Value.type z)) = false := fun z => beq_eq_false_iff_ne.mpr fun y => nomatch y
    have m1 : ((Value.ref D) == (Value.ref C)) = false := by rw [vr]; exact decide_eq_false fun z => e z.symm
    have m2 : ((Value.ref D) == (Value.ref W)) = false := by rw [vr]; exact decide_eq_false nW
    simp only [List.contains_cons, List.contains_nil, q, m1, m2, Bool.or_false]
theorem kit_up {C W : Addr} (c : Cb K C W) (d : Wc K W) (nW : C ≠ W) : PySem.W.kitOne K (.ref C) (.ref W) = some true := by
  obtain ⟨_, cd, c2, c3⟩ := c
  obtain ⟨d1, d2⟩ := d
  unfold PySem.W.kitOne
  rw [vr, decide_eq_false nW, if_neg Bool.false_ne_true]
  unfold PySem.W.kitCls
  dsimp only
  rw [if_pos (by rw [d2, show (PySem.W.clsIn K W).isSome = true from d1]; rfl)]
  show PySem.W.mroIn K C (.ref W) = _
  unfold PySem.W.mroIn
  rw [c2]
  show (if cd.mro.isEmpty = true then none else some (cd.mro.contains (.ref W))) = _
  rw [c3]
  show some (List.contains [Value.ref C, Value.ref W, Value.type "ValueError", Value.type "Exception", Value.type "BaseException", Value.type "object"] (Value.ref W)) = _
  have m2 : ((Value.ref W) == (Value.ref W)) = true := beq_self_eq_true _
  simp only [List.contains_cons, m2, Bool.true_or, Bool.or_true]
theorem kit_val {C W : Addr} (c : Cb K C W) : PySem.W.kitOne K (.ref C) (.type "ValueError") = some true := by
  obtain ⟨_, cd, c2, c3⟩ := c
  unfold PySem.W.kitOne
  rw [show ((Value.ref C) == (Value.type "ValueError")) = false from beq_eq_false_iff_ne.mpr fun y => (nomatch y)]
  refine (if_neg Bool.false_ne_true).trans ?_
  unfold PySem.W.kitCls
  dsimp only
  rw [if_pos (by decide +kernel)]
  show PySem.W.mroIn K C (.type "ValueError") = _
  unfold PySem.W.mroIn
  rw [c2]
  show (if cd.mro.isEmpty = true then none else some (cd.mro.contains (.type "ValueError"))) = _
  rw [c3]
  show some (List.contains [Value.ref C, Value.ref W, Value.type "ValueError", Value.type "Exception", Value.type "BaseException", Value.type "object"] (Value.type "ValueError")) = _
  have m2 : ((Value.type "ValueError") == (Value.type "ValueError")) = true := beq_self_eq_true _
  simp only [List.contains_cons, m2, Bool.true_or, Bool.or_true]
theorem getD_mem {cs : List Addr} {i : Nat} (h : i < cs.length) : cs.getD i 0 ∈ cs := by
  rw [List.getD_eq_getElem?_getD, List.getElem?_eq_getElem h]
  exact List.getElem_mem h
theorem two_of {cs : List Addr} {W : Addr} (hl : cs.length = 26) (nd : cs.Nodup) (nW : W ∉ cs) (c : ∀ x ∈ cs, Cb K x W) :
    ∀ i j : Nat, i < 26 → j < 26 → PySem.W.kitOne K (.ref (cs.getD i 0)) (.ref (cs.getD j 0)) = some (decide (j = i)) := fun i j hi hj => by
  rw [kit_two (c _ (getD_mem (hl ▸ hi))) (c _ (getD_mem (hl ▸ hj))) (fun z => nW (z ▸ getD_mem (hl ▸ hj)))]
  refine congrArg some (decide_eq_decide.mpr ⟨fun z => ?_, fun z => by rw [z]⟩)
  have hi' : i < cs.length := hl ▸ hi
  have hj' : j < cs.length := hl ▸ hj
  rw [List.getD_eq_getElem?_getD, List.getD_eq_getElem?_getD, List.getElem?_eq_getElem hi', List.getElem?_eq_getElem hj'] at z
  exact (List.getElem_inj (h₀ := hj') (h₁ := hi') nd).mp z
theorem up_of {cs : List Addr} {W : Addr} (hl : cs.length = 26) (nW : W ∉ cs) (hW : Wc K W) (c : ∀ x ∈ cs, Cb K x W ∧ ExcC K x ∧ XfC K x) :
    ∀ i : Nat, i < 26 → PySem.W.kitOne K (.ref (cs.getD i 0)) (.ref W) = some true ∧ PySem.W.kitOne K (.ref (cs.getD i 0)) (.type "ValueError") = some true ∧ ExcC K (cs.getD i 0) ∧ XfC K (cs.getD i 0) := fun i hi => by
  have m := getD_mem (hl ▸ hi : i < cs.length)
  obtain ⟨h1, h2, h3⟩ := c _ m
  exact ⟨kit_up h1 hW (fun z => nW (z ▸ m)), kit_val h1, h2, h3⟩
end

end Vf

set_option maxRecDepth 100000
set_option maxHeartbeats 4000000
namespace Vf
open PySem PySem.Spec PyProof.Rows L2 SX
theorem all_ok {P : Program} {w : World} {K : PySem.W.Frag} {mg : Str → Option Value} {c_BadText c_BadWord c_BadNumber c_BadStep c_TooMany c_TooHeavy c_Refused c_NoTongue c_BadName c_TakenName c_NoFile c_NoScript c_NoGuard c_Broken c_BadPlace c_NoLine c_Touched c_AllLines c_NoHidden c_Unlike c_Conflict c_MayConflict c_NothingNoted c_MixedTongues c_NothingToUndo c_NothingToRedo W : Addr} (T : Tx K w mg)
    (d_allSigns : Dn K mg "all_signs" s_allSigns [])
    (d_isSign : Dn K mg "is_sign" s_isSign ["value"])
    (d_isText : Dn K mg "is_text" s_isText ["value"])
    (d_linesOf : Dn K mg "lines_of" s_linesOf ["text"])
    (d_textOf : Dn K mg "text_of" s_textOf ["lines"])
    (d_lineStarts : Dn K mg "line_starts" s_lineStarts ["text"])
    (d_pen : Dn K mg "_law_pen" s_pen ["_law_script"])
    (d_draw : Dn K mg "_law_draw" s_draw ["_law_pen_here", "_law_many"])
    (d_told : Dn K mg "_law_told" s_told ["_law_error"])
    (d_lawSigns : Dn K mg "_law_all_signs" s_lawSigns [])
    (d_isWord : Dn K mg "is_word" s_isWord ["value"])
    (d_pick : Dn K mg "_law_pick" s_pick ["_law_pen_here", "_law_some"])
    (d_lawWord : Dn K mg "_law_word" s_lawWord ["_law_pen_here", "_law_signs", "_law_most"])
    (d_lawText : Dn K mg "_law_text" s_lawText ["_law_pen_here", "_law_signs", "_law_most"])
    (d_firstErrors : Dn K mg "_law_first_errors" s_firstErrors ["_law_a", "_law_b", "_law_c"])
    (d_otherErrors : Dn K mg "_law_other_errors" s_otherErrors ["_law_a", "_law_b"])
    (d_areSignsRight : Dn K mg "_law_are_signs_right" s_areSignsRight ["_law_pen_here"])
    (d_areLinesRight : Dn K mg "_law_are_lines_right" s_areLinesRight ["_law_pen_here"])
    (k_BadText : Kc K mg "BadText" c_BadText W ["line", "column"] i_BadText)
    (k_BadWord : Kc K mg "BadWord" c_BadWord W ["what"] i_BadWord)
    (k_BadNumber : Kc K mg "BadNumber" c_BadNumber W ["what", "number"] i_BadNumber)
    (k_BadStep : Kc K mg "BadStep" c_BadStep W ["number"] i_BadStep)
    (k_TooMany : Kc K mg "TooMany" c_TooMany W ["what", "many", "limit"] i_TooMany)
    (k_TooHeavy : Kc K mg "TooHeavy" c_TooHeavy W ["weight"] i_TooHeavy)
    (k_Refused : Kc K mg "Refused" c_Refused W ["number"] i_Refused)
    (k_NoTongue : Kc K mg "NoTongue" c_NoTongue W ["number"] i_NoTongue)
    (k_BadName : Kc K mg "BadName" c_BadName W ["name"] i_BadName)
    (k_TakenName : Kc K mg "TakenName" c_TakenName W ["name"] i_TakenName)
    (k_NoFile : Kc K mg "NoFile" c_NoFile W ["name"] i_NoFile)
    (k_NoScript : Kc K mg "NoScript" c_NoScript W ["name"] i_NoScript)
    (k_NoGuard : Kc K mg "NoGuard" c_NoGuard W ["name", "number"] i_NoGuard)
    (k_Broken : Kc K mg "Broken" c_Broken W ["name", "number"] i_Broken)
    (k_BadPlace : Kc K mg "BadPlace" c_BadPlace W ["place"] i_BadPlace)
    (k_NoLine : Kc K mg "NoLine" c_NoLine W ["number"] i_NoLine)
    (k_Touched : Kc K mg "Touched" c_Touched W ["number"] i_Touched)
    (k_AllLines : Kc K mg "AllLines" c_AllLines W ["name"] i_AllLines)
    (k_NoHidden : Kc K mg "NoHidden" c_NoHidden W ["number"] i_NoHidden)
    (k_Unlike : Kc K mg "Unlike" c_Unlike W ["text"] i_Unlike)
    (k_Conflict : Kc K mg "Conflict" c_Conflict W ["start", "stop"] i_Conflict)
    (k_MayConflict : Kc K mg "MayConflict" c_MayConflict W ["text"] i_MayConflict)
    (k_NothingNoted : Kc0 K mg "NothingNoted" c_NothingNoted W)
    (k_MixedTongues : Kc0 K mg "MixedTongues" c_MixedTongues W)
    (k_NothingToUndo : Kc0 K mg "NothingToUndo" c_NothingToUndo W)
    (k_NothingToRedo : Kc0 K mg "NothingToRedo" c_NothingToRedo W)
    (gW : mg "WorkshopError" = some (.ref W)) (hW : Wc K W) (nd : ([c_BadText, c_BadWord, c_BadNumber, c_BadStep, c_TooMany, c_TooHeavy, c_Refused, c_NoTongue, c_BadName, c_TakenName, c_NoFile, c_NoScript, c_NoGuard, c_Broken, c_BadPlace, c_NoLine, c_Touched, c_AllLines, c_NoHidden, c_Unlike, c_Conflict, c_MayConflict, c_NothingNoted, c_MixedTongues, c_NothingToUndo, c_NothingToRedo] : List Addr).Nodup) (nW : W ∉ ([c_BadText, c_BadWord, c_BadNumber, c_BadStep, c_TooMany, c_TooHeavy, c_Refused, c_NoTongue, c_BadName, c_TakenName, c_NoFile, c_NoScript, c_NoGuard, c_Broken, c_BadPlace, c_NoLine, c_Touched, c_AllLines, c_NoHidden, c_Unlike, c_Conflict, c_MayConflict, c_NothingNoted, c_MixedTongues, c_NothingToUndo, c_NothingToRedo] : List Addr))
    (base : Heap) {f : Addr} {fd : FuncData} (F : C8.Def K mg "law" s_law f fd) : RunAt P w K mg base callerA f fd ["_law_script"] (sp_law K) := by
  have A : ∀ c ∈ ([c_BadText, c_BadWord, c_BadNumber, c_BadStep, c_TooMany, c_TooHeavy, c_Refused, c_NoTongue, c_BadName, c_TakenName, c_NoFile, c_NoScript, c_NoGuard, c_Broken, c_BadPlace, c_NoLine, c_Touched, c_AllLines, c_NoHidden, c_Unlike, c_Conflict, c_MayConflict, c_NothingNoted, c_MixedTongues, c_NothingToUndo, c_NothingToRedo] : List Addr), Cb K c W ∧ ExcC K c ∧ XfC K c := fun c hc => by
    simp only [List.mem_cons, List.not_mem_nil, or_false] at hc
    rcases hc with rfl | rfl | rfl | rfl | rfl | rfl | rfl | rfl | rfl | rfl | rfl | rfl | rfl | rfl | rfl | rfl | rfl | rfl | rfl | rfl | rfl | rfl | rfl | rfl | rfl | rfl
    · exact ⟨k_BadText.c.b, k_BadText.c.ec.e, k_BadText.c.ec.x⟩
    · exact ⟨k_BadWord.c.b, k_BadWord.c.ec.e, k_BadWord.c.ec.x⟩
    · exact ⟨k_BadNumber.c.b, k_BadNumber.c.ec.e, k_BadNumber.c.ec.x⟩
    · exact ⟨k_BadStep.c.b, k_BadStep.c.ec.e, k_BadStep.c.ec.x⟩
    · exact ⟨k_TooMany.c.b, k_TooMany.c.ec.e, k_TooMany.c.ec.x⟩
    · exact ⟨k_TooHeavy.c.b, k_TooHeavy.c.ec.e, k_TooHeavy.c.ec.x⟩
    · exact ⟨k_Refused.c.b, k_Refused.c.ec.e, k_Refused.c.ec.x⟩
    · exact ⟨k_NoTongue.c.b, k_NoTongue.c.ec.e, k_NoTongue.c.ec.x⟩
    · exact ⟨k_BadName.c.b, k_BadName.c.ec.e, k_BadName.c.ec.x⟩
    · exact ⟨k_TakenName.c.b, k_TakenName.c.ec.e, k_TakenName.c.ec.x⟩
    · exact ⟨k_NoFile.c.b, k_NoFile.c.ec.e, k_NoFile.c.ec.x⟩
    · exact ⟨k_NoScript.c.b, k_NoScript.c.ec.e, k_NoScript.c.ec.x⟩
    · exact ⟨k_NoGuard.c.b, k_NoGuard.c.ec.e, k_NoGuard.c.ec.x⟩
    · exact ⟨k_Broken.c.b, k_Broken.c.ec.e, k_Broken.c.ec.x⟩
    · exact ⟨k_BadPlace.c.b, k_BadPlace.c.ec.e, k_BadPlace.c.ec.x⟩
    · exact ⟨k_NoLine.c.b, k_NoLine.c.ec.e, k_NoLine.c.ec.x⟩
    · exact ⟨k_Touched.c.b, k_Touched.c.ec.e, k_Touched.c.ec.x⟩
    · exact ⟨k_AllLines.c.b, k_AllLines.c.ec.e, k_AllLines.c.ec.x⟩
    · exact ⟨k_NoHidden.c.b, k_NoHidden.c.ec.e, k_NoHidden.c.ec.x⟩
    · exact ⟨k_Unlike.c.b, k_Unlike.c.ec.e, k_Unlike.c.ec.x⟩
    · exact ⟨k_Conflict.c.b, k_Conflict.c.ec.e, k_Conflict.c.ec.x⟩
    · exact ⟨k_MayConflict.c.b, k_MayConflict.c.ec.e, k_MayConflict.c.ec.x⟩
    · exact ⟨k_NothingNoted.c.b, k_NothingNoted.c.ec.e, k_NothingNoted.c.ec.x⟩
    · exact ⟨k_MixedTongues.c.b, k_MixedTongues.c.ec.e, k_MixedTongues.c.ec.x⟩
    · exact ⟨k_NothingToUndo.c.b, k_NothingToUndo.c.ec.e, k_NothingToUndo.c.ec.x⟩
    · exact ⟨k_NothingToRedo.c.b, k_NothingToRedo.c.ec.e, k_NothingToRedo.c.ec.x⟩
  have ES : Es P w K mg base [c_BadText, c_BadWord, c_BadNumber, c_BadStep, c_TooMany, c_TooHeavy, c_Refused, c_NoTongue, c_BadName, c_TakenName, c_NoFile, c_NoScript, c_NoGuard, c_Broken, c_BadPlace, c_NoLine, c_Touched, c_AllLines, c_NoHidden, c_Unlike, c_Conflict, c_MayConflict, c_NothingNoted, c_MixedTongues, c_NothingToUndo, c_NothingToRedo] W := {
    b_WorkshopError := gW
    e_BadText := ek_mk k_BadText ini_BadText
    e_BadWord := ek_mk k_BadWord ini_BadWord
    e_BadNumber := ek_mk k_BadNumber ini_BadNumber
    e_BadStep := ek_mk k_BadStep ini_BadStep
    e_TooMany := ek_mk k_TooMany ini_TooMany
    e_TooHeavy := ek_mk k_TooHeavy ini_TooHeavy
    e_Refused := ek_mk k_Refused ini_Refused
    e_NoTongue := ek_mk k_NoTongue ini_NoTongue
    e_BadName := ek_mk k_BadName ini_BadName
    e_TakenName := ek_mk k_TakenName ini_TakenName
    e_NoFile := ek_mk k_NoFile ini_NoFile
    e_NoScript := ek_mk k_NoScript ini_NoScript
    e_NoGuard := ek_mk k_NoGuard ini_NoGuard
    e_Broken := ek_mk k_Broken ini_Broken
    e_BadPlace := ek_mk k_BadPlace ini_BadPlace
    e_NoLine := ek_mk k_NoLine ini_NoLine
    e_Touched := ek_mk k_Touched ini_Touched
    e_AllLines := ek_mk k_AllLines ini_AllLines
    e_NoHidden := ek_mk k_NoHidden ini_NoHidden
    e_Unlike := ek_mk k_Unlike ini_Unlike
    e_Conflict := ek_mk k_Conflict ini_Conflict
    e_MayConflict := ek_mk k_MayConflict ini_MayConflict
    e_NothingNoted := ek_mk0 k_NothingNoted
    e_MixedTongues := ek_mk0 k_MixedTongues
    e_NothingToUndo := ek_mk0 k_NothingToUndo
    e_NothingToRedo := ek_mk0 k_NothingToRedo
    two := two_of (cs := [c_BadText, c_BadWord, c_BadNumber, c_BadStep, c_TooMany, c_TooHeavy, c_Refused, c_NoTongue, c_BadName, c_TakenName, c_NoFile, c_NoScript, c_NoGuard, c_Broken, c_BadPlace, c_NoLine, c_Touched, c_AllLines, c_NoHidden, c_Unlike, c_Conflict, c_MayConflict, c_NothingNoted, c_MixedTongues, c_NothingToUndo, c_NothingToRedo]) rfl nd nW fun c hc => (A c hc).1
    up := up_of (cs := [c_BadText, c_BadWord, c_BadNumber, c_BadStep, c_TooMany, c_TooHeavy, c_Refused, c_NoTongue, c_BadName, c_TakenName, c_NoFile, c_NoScript, c_NoGuard, c_Broken, c_BadPlace, c_NoLine, c_Touched, c_AllLines, c_NoHidden, c_Unlike, c_Conflict, c_MayConflict, c_NothingNoted, c_MixedTongues, c_NothingToUndo, c_NothingToRedo]) rfl nW hW A }
  obtain ⟨f_allSigns, fd_allSigns, F_allSigns, b_allSigns⟩ := d_allSigns
  have C_allSigns := ok_allSigns (P := P) (base := base) (w := w) F_allSigns b_allSigns T
  obtain ⟨f_isSign, fd_isSign, F_isSign, b_isSign⟩ := d_isSign
  have C_isSign := ok_isSign (P := P) (base := base) (w := w) F_isSign b_isSign T
  obtain ⟨f_isText, fd_isText, F_isText, b_isText⟩ := d_isText
  have C_isText := ok_isText (P := P) (base := base) (w := w) F_isText b_isText T
  obtain ⟨f_linesOf, fd_linesOf, F_linesOf, b_linesOf⟩ := d_linesOf
  have C_linesOf := ok_linesOf (P := P) (base := base) (w := w) F_linesOf b_linesOf T
  obtain ⟨f_textOf, fd_textOf, F_textOf, b_textOf⟩ := d_textOf
  have C_textOf := ok_textOf (P := P) (base := base) (w := w) F_textOf b_textOf T
  obtain ⟨f_lineStarts, fd_lineStarts, F_lineStarts, b_lineStarts⟩ := d_lineStarts
  have C_lineStarts := ok_lineStarts (P := P) (base := base) (w := w) F_lineStarts b_lineStarts T
  obtain ⟨f_pen, fd_pen, F_pen, b_pen⟩ := d_pen
  have C_pen := ok_pen (P := P) (base := base) (w := w) F_pen b_pen T
  obtain ⟨f_draw, fd_draw, F_draw, b_draw⟩ := d_draw
  have C_draw := ok_draw (P := P) (base := base) (w := w) F_draw b_draw T
  obtain ⟨f_told, fd_told, F_told, b_told⟩ := d_told
  have C_told := ok_told (P := P) (base := base) (w := w) F_told b_told T ES
  obtain ⟨f_lawSigns, fd_lawSigns, F_lawSigns, b_lawSigns⟩ := d_lawSigns
  have C_lawSigns := ok_lawSigns (P := P) (base := base) (w := w) F_lawSigns b_lawSigns T
  obtain ⟨f_isWord, fd_isWord, F_isWord, b_isWord⟩ := d_isWord
  have C_isWord := ok_isWord (P := P) (base := base) (w := w) F_isWord b_isWord T C_isText
  obtain ⟨f_pick, fd_pick, F_pick, b_pick⟩ := d_pick
  have C_pick := ok_pick (P := P) (base := base) (w := w) F_pick b_pick T C_draw
  obtain ⟨f_lawWord, fd_lawWord, F_lawWord, b_lawWord⟩ := d_lawWord
  have C_lawWord := ok_lawWord (P := P) (base := base) (w := w) F_lawWord b_lawWord T C_draw C_pick
  obtain ⟨f_lawText, fd_lawText, F_lawText, b_lawText⟩ := d_lawText
  have C_lawText := ok_lawText (P := P) (base := base) (w := w) F_lawText b_lawText T C_draw C_pick
  obtain ⟨f_firstErrors, fd_firstErrors, F_firstErrors, b_firstErrors⟩ := d_firstErrors
  have C_firstErrors := ok_firstErrors (P := P) (base := base) (w := w) F_firstErrors b_firstErrors T ES
  obtain ⟨f_otherErrors, fd_otherErrors, F_otherErrors, b_otherErrors⟩ := d_otherErrors
  have C_otherErrors := ok_otherErrors (P := P) (base := base) (w := w) F_otherErrors b_otherErrors T ES
  obtain ⟨f_areSignsRight, fd_areSignsRight, F_areSignsRight, b_areSignsRight⟩ := d_areSignsRight
  have C_areSignsRight := ok_areSignsRight (P := P) (base := base) (w := w) F_areSignsRight b_areSignsRight T C_lawSigns C_isSign C_allSigns C_isText C_isWord C_draw C_pick
  obtain ⟨f_areLinesRight, fd_areLinesRight, F_areLinesRight, b_areLinesRight⟩ := d_areLinesRight
  have C_areLinesRight := ok_areLinesRight (P := P) (base := base) (w := w) F_areLinesRight b_areLinesRight T C_lawText C_textOf C_lineStarts C_linesOf
  exact ok_law F T C_pen C_lawWord C_draw C_pick C_firstErrors C_otherErrors C_told C_areLinesRight C_areSignsRight
end Vf

open PySem PySem.W PyProof.Rows
set_option maxRecDepth 100000 in
set_option maxHeartbeats 0 in
theorem PySem.Challenge.cw_textworkshop_k00_errors_and_signs_holds : PySem.Challenge.rw_textworkshop_k00_errors_and_signs.Holds := by
  w_on; o_law; k_head; (case hw => w_witness2)
  k_fill
  refine Vf.walk_ofG (l := PySem.Challenge.rw_textworkshop_k00_errors_and_signs) (n := 63) (x := "_law_script") (sp := fun K => Vf.sp_law K) rfl (by decide) rfl (fun w h Y => PySem.W.kIn_of Y) ?F (fun K H a ns hl _ hS => ⟨a, ns, rfl, hS, hl, fun _ => rfl⟩)
  case F =>
    intro w mg fa h KX G hmg
    refine' Vf.useIt (Vf.wc_mk (n := "WorkshopError") KX G ?a ?c ?k) (fun eW => ?_)
    (case a => k_is); (case c => k_is); (case k => k_is)
    refine' Vf.useIt (Vf.mt_mk KX ?n ?t) (fun eM => ?_)
    (case n => k_is); (case t => k_is)
    refine' Vf.useIt (Vf.cl_mk (n := "BadText") KX G eW eM ?a ?l ?s ?b ?y ?k ?g ?h ?d ?e ?m) (fun c_BadText => ?_)
    (case a => k_is); (case l => k_is); (case s => k_is); (case b => k_is); (case y => k_is); (case k => k_is); (case g => k_is); (case h => k_is); (case d => k_is); (case e => k_is); (case m => k_is)
    refine' Vf.useIt (Vf.kc_mk2 (st := Vf.i_BadText) c_BadText (f0 := "line") (f1 := "column") ?n0 ?n1 ?i ?t ?l ?c (fun _ _ _ _ _ _ us hl => match us, hl with | [_, _, _], _ => rfl)) (fun k_BadText => ?_)
    (case n0 => k_is); (case n1 => k_is); (case i => k_is); (case t => k_is); (case l => k_is); (case c => k_is)
    refine' Vf.useIt (Vf.cl_mk (n := "BadWord") KX G eW eM ?a ?l ?s ?b ?y ?k ?g ?h ?d ?e ?m) (fun c_BadWord => ?_)
    (case a => k_is); (case l => k_is); (case s => k_is); (case b => k_is); (case y => k_is); (case k => k_is); (case g => k_is); (case h => k_is); (case d => k_is); (case e => k_is); (case m => k_is)
    refine' Vf.useIt (Vf.kc_mk1 (st := Vf.i_BadWord) c_BadWord (f0 := "what") ?n0 ?i ?t ?l ?c (fun _ _ _ _ _ _ us hl => match us, hl with | [_, _], _ => rfl)) (fun k_BadWord => ?_)
    (case n0 => k_is); (case i => k_is); (case t => k_is); (case l => k_is); (case c => k_is)
    refine' Vf.useIt (Vf.cl_mk (n := "BadNumber") KX G eW eM ?a ?l ?s ?b ?y ?k ?g ?h ?d ?e ?m) (fun c_BadNumber => ?_)
    (case a => k_is); (case l => k_is); (case s => k_is); (case b => k_is); (case y => k_is); (case k => k_is); (case g => k_is); (case h => k_is); (case d => k_is); (case e => k_is); (case m => k_is)
    refine' Vf.useIt (Vf.kc_mk2 (st := Vf.i_BadNumber) c_BadNumber (f0 := "what") (f1 := "number") ?n0 ?n1 ?i ?t ?l ?c (fun _ _ _ _ _ _ us hl => match us, hl with | [_, _, _], _ => rfl)) (fun k_BadNumber => ?_)
    (case n0 => k_is); (case n1 => k_is); (case i => k_is); (case t => k_is); (case l => k_is); (case c => k_is)
    refine' Vf.useIt (Vf.cl_mk (n := "BadStep") KX G eW eM ?a ?l ?s ?b ?y ?k ?g ?h ?d ?e ?m) (fun c_BadStep => ?_)
    (case a => k_is); (case l => k_is); (case s => k_is); (case b => k_is); (case y => k_is); (case k => k_is); (case g => k_is); (case h => k_is); (case d => k_is); (case e => k_is); (case m => k_is)
    refine' Vf.useIt (Vf.kc_mk1 (st := Vf.i_BadStep) c_BadStep (f0 := "number") ?n0 ?i ?t ?l ?c (fun _ _ _ _ _ _ us hl => match us, hl with | [_, _], _ => rfl)) (fun k_BadStep => ?_)
    (case n0 => k_is); (case i => k_is); (case t => k_is); (case l => k_is); (case c => k_is)
    refine' Vf.useIt (Vf.cl_mk (n := "TooMany") KX G eW eM ?a ?l ?s ?b ?y ?k ?g ?h ?d ?e ?m) (fun c_TooMany => ?_)
    (case a => k_is); (case l => k_is); (case s => k_is); (case b => k_is); (case y => k_is); (case k => k_is); (case g => k_is); (case h => k_is); (case d => k_is); (case e => k_is); (case m => k_is)
    refine' Vf.useIt (Vf.kc_mk3 (st := Vf.i_TooMany) c_TooMany (f0 := "what") (f1 := "many") (f2 := "limit") ?n0 ?n1 ?n2 ?i ?t ?l ?c (fun _ _ _ _ _ _ us hl => match us, hl with | [_, _, _, _], _ => rfl)) (fun k_TooMany => ?_)
    (case n0 => k_is); (case n1 => k_is); (case n2 => k_is); (case i => k_is); (case t => k_is); (case l => k_is); (case c => k_is)
    refine' Vf.useIt (Vf.cl_mk (n := "TooHeavy") KX G eW eM ?a ?l ?s ?b ?y ?k ?g ?h ?d ?e ?m) (fun c_TooHeavy => ?_)
    (case a => k_is); (case l => k_is); (case s => k_is); (case b => k_is); (case y => k_is); (case k => k_is); (case g => k_is); (case h => k_is); (case d => k_is); (case e => k_is); (case m => k_is)
    refine' Vf.useIt (Vf.kc_mk1 (st := Vf.i_TooHeavy) c_TooHeavy (f0 := "weight") ?n0 ?i ?t ?l ?c (fun _ _ _ _ _ _ us hl => match us, hl with | [_, _], _ => rfl)) (fun k_TooHeavy => ?_)
    (case n0 => k_is); (case i => k_is); (case t => k_is); (case l => k_is); (case c => k_is)
    refine' Vf.useIt (Vf.cl_mk (n := "Refused") KX G eW eM ?a ?l ?s ?b ?y ?k ?g ?h ?d ?e ?m) (fun c_Refused => ?_)
    (case a => k_is); (case l => k_is); (case s => k_is); (case b => k_is); (case y => k_is); (case k => k_is); (case g => k_is); (case h => k_is); (case d => k_is); (case e => k_is); (case m => k_is)
    refine' Vf.useIt (Vf.kc_mk1 (st := Vf.i_Refused) c_Refused (f0 := "number") ?n0 ?i ?t ?l ?c (fun _ _ _ _ _ _ us hl => match us, hl with | [_, _], _ => rfl)) (fun k_Refused => ?_)
    (case n0 => k_is); (case i => k_is); (case t => k_is); (case l => k_is); (case c => k_is)
    refine' Vf.useIt (Vf.cl_mk (n := "NoTongue") KX G eW eM ?a ?l ?s ?b ?y ?k ?g ?h ?d ?e ?m) (fun c_NoTongue => ?_)
    (case a => k_is); (case l => k_is); (case s => k_is); (case b => k_is); (case y => k_is); (case k => k_is); (case g => k_is); (case h => k_is); (case d => k_is); (case e => k_is); (case m => k_is)
    refine' Vf.useIt (Vf.kc_mk1 (st := Vf.i_NoTongue) c_NoTongue (f0 := "number") ?n0 ?i ?t ?l ?c (fun _ _ _ _ _ _ us hl => match us, hl with | [_, _], _ => rfl)) (fun k_NoTongue => ?_)
    (case n0 => k_is); (case i => k_is); (case t => k_is); (case l => k_is); (case c => k_is)
    refine' Vf.useIt (Vf.cl_mk (n := "BadName") KX G eW eM ?a ?l ?s ?b ?y ?k ?g ?h ?d ?e ?m) (fun c_BadName => ?_)
    (case a => k_is); (case l => k_is); (case s => k_is); (case b => k_is); (case y => k_is); (case k => k_is); (case g => k_is); (case h => k_is); (case d => k_is); (case e => k_is); (case m => k_is)
    refine' Vf.useIt (Vf.kc_mk1 (st := Vf.i_BadName) c_BadName (f0 := "name") ?n0 ?i ?t ?l ?c (fun _ _ _ _ _ _ us hl => match us, hl with | [_, _], _ => rfl)) (fun k_BadName => ?_)
    (case n0 => k_is); (case i => k_is); (case t => k_is); (case l => k_is); (case c => k_is)
    refine' Vf.useIt (Vf.cl_mk (n := "TakenName") KX G eW eM ?a ?l ?s ?b ?y ?k ?g ?h ?d ?e ?m) (fun c_TakenName => ?_)
    (case a => k_is); (case l => k_is); (case s => k_is); (case b => k_is); (case y => k_is); (case k => k_is); (case g => k_is); (case h => k_is); (case d => k_is); (case e => k_is); (case m => k_is)
    refine' Vf.useIt (Vf.kc_mk1 (st := Vf.i_TakenName) c_TakenName (f0 := "name") ?n0 ?i ?t ?l ?c (fun _ _ _ _ _ _ us hl => match us, hl with | [_, _], _ => rfl)) (fun k_TakenName => ?_)
    (case n0 => k_is); (case i => k_is); (case t => k_is); (case l => k_is); (case c => k_is)
    refine' Vf.useIt (Vf.cl_mk (n := "NoFile") KX G eW eM ?a ?l ?s ?b ?y ?k ?g ?h ?d ?e ?m) (fun c_NoFile => ?_)
    (case a => k_is); (case l => k_is); (case s => k_is); (case b => k_is); (case y => k_is); (case k => k_is); (case g => k_is); (case h => k_is); (case d => k_is); (case e => k_is); (case m => k_is)
    refine' Vf.useIt (Vf.kc_mk1 (st := Vf.i_NoFile) c_NoFile (f0 := "name") ?n0 ?i ?t ?l ?c (fun _ _ _ _ _ _ us hl => match us, hl with | [_, _], _ => rfl)) (fun k_NoFile => ?_)
    (case n0 => k_is); (case i => k_is); (case t => k_is); (case l => k_is); (case c => k_is)
    refine' Vf.useIt (Vf.cl_mk (n := "NoScript") KX G eW eM ?a ?l ?s ?b ?y ?k ?g ?h ?d ?e ?m) (fun c_NoScript => ?_)
    (case a => k_is); (case l => k_is); (case s => k_is); (case b => k_is); (case y => k_is); (case k => k_is); (case g => k_is); (case h => k_is); (case d => k_is); (case e => k_is); (case m => k_is)
    refine' Vf.useIt (Vf.kc_mk1 (st := Vf.i_NoScript) c_NoScript (f0 := "name") ?n0 ?i ?t ?l ?c (fun _ _ _ _ _ _ us hl => match us, hl with | [_, _], _ => rfl)) (fun k_NoScript => ?_)
    (case n0 => k_is); (case i => k_is); (case t => k_is); (case l => k_is); (case c => k_is)
    refine' Vf.useIt (Vf.cl_mk (n := "NoGuard") KX G eW eM ?a ?l ?s ?b ?y ?k ?g ?h ?d ?e ?m) (fun c_NoGuard => ?_)
    (case a => k_is); (case l => k_is); (case s => k_is); (case b => k_is); (case y => k_is); (case k => k_is); (case g => k_is); (case h => k_is); (case d => k_is); (case e => k_is); (case m => k_is)
    refine' Vf.useIt (Vf.kc_mk2 (st := Vf.i_NoGuard) c_NoGuard (f0 := "name") (f1 := "number") ?n0 ?n1 ?i ?t ?l ?c (fun _ _ _ _ _ _ us hl => match us, hl with | [_, _, _], _ => rfl)) (fun k_NoGuard => ?_)
    (case n0 => k_is); (case n1 => k_is); (case i => k_is); (case t => k_is); (case l => k_is); (case c => k_is)
    refine' Vf.useIt (Vf.cl_mk (n := "Broken") KX G eW eM ?a ?l ?s ?b ?y ?k ?g ?h ?d ?e ?m) (fun c_Broken => ?_)
    (case a => k_is); (case l => k_is); (case s => k_is); (case b => k_is); (case y => k_is); (case k => k_is); (case g => k_is); (case h => k_is); (case d => k_is); (case e => k_is); (case m => k_is)
    refine' Vf.useIt (Vf.kc_mk2 (st := Vf.i_Broken) c_Broken (f0 := "name") (f1 := "number") ?n0 ?n1 ?i ?t ?l ?c (fun _ _ _ _ _ _ us hl => match us, hl with | [_, _, _], _ => rfl)) (fun k_Broken => ?_)
    (case n0 => k_is); (case n1 => k_is); (case i => k_is); (case t => k_is); (case l => k_is); (case c => k_is)
    refine' Vf.useIt (Vf.cl_mk (n := "BadPlace") KX G eW eM ?a ?l ?s ?b ?y ?k ?g ?h ?d ?e ?m) (fun c_BadPlace => ?_)
    (case a => k_is); (case l => k_is); (case s => k_is); (case b => k_is); (case y => k_is); (case k => k_is); (case g => k_is); (case h => k_is); (case d => k_is); (case e => k_is); (case m => k_is)
    refine' Vf.useIt (Vf.kc_mk1 (st := Vf.i_BadPlace) c_BadPlace (f0 := "place") ?n0 ?i ?t ?l ?c (fun _ _ _ _ _ _ us hl => match us, hl with | [_, _], _ => rfl)) (fun k_BadPlace => ?_)
    (case n0 => k_is); (case i => k_is); (case t => k_is); (case l => k_is); (case c => k_is)
    refine' Vf.useIt (Vf.cl_mk (n := "NoLine") KX G eW eM ?a ?l ?s ?b ?y ?k ?g ?h ?d ?e ?m) (fun c_NoLine => ?_)
    (case a => k_is); (case l => k_is); (case s => k_is); (case b => k_is); (case y => k_is); (case k => k_is); (case g => k_is); (case h => k_is); (case d => k_is); (case e => k_is); (case m => k_is)
    refine' Vf.useIt (Vf.kc_mk1 (st := Vf.i_NoLine) c_NoLine (f0 := "number") ?n0 ?i ?t ?l ?c (fun _ _ _ _ _ _ us hl => match us, hl with | [_, _], _ => rfl)) (fun k_NoLine => ?_)
    (case n0 => k_is); (case i => k_is); (case t => k_is); (case l => k_is); (case c => k_is)
    refine' Vf.useIt (Vf.cl_mk (n := "Touched") KX G eW eM ?a ?l ?s ?b ?y ?k ?g ?h ?d ?e ?m) (fun c_Touched => ?_)
    (case a => k_is); (case l => k_is); (case s => k_is); (case b => k_is); (case y => k_is); (case k => k_is); (case g => k_is); (case h => k_is); (case d => k_is); (case e => k_is); (case m => k_is)
    refine' Vf.useIt (Vf.kc_mk1 (st := Vf.i_Touched) c_Touched (f0 := "number") ?n0 ?i ?t ?l ?c (fun _ _ _ _ _ _ us hl => match us, hl with | [_, _], _ => rfl)) (fun k_Touched => ?_)
    (case n0 => k_is); (case i => k_is); (case t => k_is); (case l => k_is); (case c => k_is)
    refine' Vf.useIt (Vf.cl_mk (n := "AllLines") KX G eW eM ?a ?l ?s ?b ?y ?k ?g ?h ?d ?e ?m) (fun c_AllLines => ?_)
    (case a => k_is); (case l => k_is); (case s => k_is); (case b => k_is); (case y => k_is); (case k => k_is); (case g => k_is); (case h => k_is); (case d => k_is); (case e => k_is); (case m => k_is)
    refine' Vf.useIt (Vf.kc_mk1 (st := Vf.i_AllLines) c_AllLines (f0 := "name") ?n0 ?i ?t ?l ?c (fun _ _ _ _ _ _ us hl => match us, hl with | [_, _], _ => rfl)) (fun k_AllLines => ?_)
    (case n0 => k_is); (case i => k_is); (case t => k_is); (case l => k_is); (case c => k_is)
    refine' Vf.useIt (Vf.cl_mk (n := "NoHidden") KX G eW eM ?a ?l ?s ?b ?y ?k ?g ?h ?d ?e ?m) (fun c_NoHidden => ?_)
    (case a => k_is); (case l => k_is); (case s => k_is); (case b => k_is); (case y => k_is); (case k => k_is); (case g => k_is); (case h => k_is); (case d => k_is); (case e => k_is); (case m => k_is)
    refine' Vf.useIt (Vf.kc_mk1 (st := Vf.i_NoHidden) c_NoHidden (f0 := "number") ?n0 ?i ?t ?l ?c (fun _ _ _ _ _ _ us hl => match us, hl with | [_, _], _ => rfl)) (fun k_NoHidden => ?_)
    (case n0 => k_is); (case i => k_is); (case t => k_is); (case l => k_is); (case c => k_is)
    refine' Vf.useIt (Vf.cl_mk (n := "Unlike") KX G eW eM ?a ?l ?s ?b ?y ?k ?g ?h ?d ?e ?m) (fun c_Unlike => ?_)
    (case a => k_is); (case l => k_is); (case s => k_is); (case b => k_is); (case y => k_is); (case k => k_is); (case g => k_is); (case h => k_is); (case d => k_is); (case e => k_is); (case m => k_is)
    refine' Vf.useIt (Vf.kc_mk1 (st := Vf.i_Unlike) c_Unlike (f0 := "text") ?n0 ?i ?t ?l ?c (fun _ _ _ _ _ _ us hl => match us, hl with | [_, _], _ => rfl)) (fun k_Unlike => ?_)
    (case n0 => k_is); (case i => k_is); (case t => k_is); (case l => k_is); (case c => k_is)
    refine' Vf.useIt (Vf.cl_mk (n := "Conflict") KX G eW eM ?a ?l ?s ?b ?y ?k ?g ?h ?d ?e ?m) (fun c_Conflict => ?_)
    (case a => k_is); (case l => k_is); (case s => k_is); (case b => k_is); (case y => k_is); (case k => k_is); (case g => k_is); (case h => k_is); (case d => k_is); (case e => k_is); (case m => k_is)
    refine' Vf.useIt (Vf.kc_mk2 (st := Vf.i_Conflict) c_Conflict (f0 := "start") (f1 := "stop") ?n0 ?n1 ?i ?t ?l ?c (fun _ _ _ _ _ _ us hl => match us, hl with | [_, _, _], _ => rfl)) (fun k_Conflict => ?_)
    (case n0 => k_is); (case n1 => k_is); (case i => k_is); (case t => k_is); (case l => k_is); (case c => k_is)
    refine' Vf.useIt (Vf.cl_mk (n := "MayConflict") KX G eW eM ?a ?l ?s ?b ?y ?k ?g ?h ?d ?e ?m) (fun c_MayConflict => ?_)
    (case a => k_is); (case l => k_is); (case s => k_is); (case b => k_is); (case y => k_is); (case k => k_is); (case g => k_is); (case h => k_is); (case d => k_is); (case e => k_is); (case m => k_is)
    refine' Vf.useIt (Vf.kc_mk1 (st := Vf.i_MayConflict) c_MayConflict (f0 := "text") ?n0 ?i ?t ?l ?c (fun _ _ _ _ _ _ us hl => match us, hl with | [_, _], _ => rfl)) (fun k_MayConflict => ?_)
    (case n0 => k_is); (case i => k_is); (case t => k_is); (case l => k_is); (case c => k_is)
    refine' Vf.useIt (Vf.cl_mk (n := "NothingNoted") KX G eW eM ?a ?l ?s ?b ?y ?k ?g ?h ?d ?e ?m) (fun c_NothingNoted => ?_)
    (case a => k_is); (case l => k_is); (case s => k_is); (case b => k_is); (case y => k_is); (case k => k_is); (case g => k_is); (case h => k_is); (case d => k_is); (case e => k_is); (case m => k_is)
    refine' Vf.useIt (Vf.kc_mk0 c_NothingNoted ?x) (fun k_NothingNoted => ?_)
    (case x => k_exc)
    refine' Vf.useIt (Vf.cl_mk (n := "MixedTongues") KX G eW eM ?a ?l ?s ?b ?y ?k ?g ?h ?d ?e ?m) (fun c_MixedTongues => ?_)
    (case a => k_is); (case l => k_is); (case s => k_is); (case b => k_is); (case y => k_is); (case k => k_is); (case g => k_is); (case h => k_is); (case d => k_is); (case e => k_is); (case m => k_is)
    refine' Vf.useIt (Vf.kc_mk0 c_MixedTongues ?x) (fun k_MixedTongues => ?_)
    (case x => k_exc)
    refine' Vf.useIt (Vf.cl_mk (n := "NothingToUndo") KX G eW eM ?a ?l ?s ?b ?y ?k ?g ?h ?d ?e ?m) (fun c_NothingToUndo => ?_)
    (case a => k_is); (case l => k_is); (case s => k_is); (case b => k_is); (case y => k_is); (case k => k_is); (case g => k_is); (case h => k_is); (case d => k_is); (case e => k_is); (case m => k_is)
    refine' Vf.useIt (Vf.kc_mk0 c_NothingToUndo ?x) (fun k_NothingToUndo => ?_)
    (case x => k_exc)
    refine' Vf.useIt (Vf.cl_mk (n := "NothingToRedo") KX G eW eM ?a ?l ?s ?b ?y ?k ?g ?h ?d ?e ?m) (fun c_NothingToRedo => ?_)
    (case a => k_is); (case l => k_is); (case s => k_is); (case b => k_is); (case y => k_is); (case k => k_is); (case g => k_is); (case h => k_is); (case d => k_is); (case e => k_is); (case m => k_is)
    refine' Vf.useIt (Vf.kc_mk0 c_NothingToRedo ?x) (fun k_NothingToRedo => ?_)
    (case x => k_exc)
    refine' Vf.useIt (Vf.dn_mk (x := "all_signs") (st := Vf.s_allSigns) (ps := []) KX G ?a ?l ?c ?k (fun _ _ _ _ _ _ us hl => match us, hl with | [], _ => rfl)) (fun d_allSigns => ?_)
    (case a => k_is); (case l => k_is); (case c => k_is); (case k => k_is)
    refine' Vf.useIt (Vf.dn_mk (x := "is_sign") (st := Vf.s_isSign) (ps := ["value"]) KX G ?a ?l ?c ?k (fun _ _ _ _ _ _ us hl => match us, hl with | [_], _ => rfl)) (fun d_isSign => ?_)
    (case a => k_is); (case l => k_is); (case c => k_is); (case k => k_is)
    refine' Vf.useIt (Vf.dn_mk (x := "is_text") (st := Vf.s_isText) (ps := ["value"]) KX G ?a ?l ?c ?k (fun _ _ _ _ _ _ us hl => match us, hl with | [_], _ => rfl)) (fun d_isText => ?_)
    (case a => k_is); (case l => k_is); (case c => k_is); (case k => k_is)
    refine' Vf.useIt (Vf.dn_mk (x := "lines_of") (st := Vf.s_linesOf) (ps := ["text"]) KX G ?a ?l ?c ?k (fun _ _ _ _ _ _ us hl => match us, hl with | [_], _ => rfl)) (fun d_linesOf => ?_)
    (case a => k_is); (case l => k_is); (case c => k_is); (case k => k_is)
    refine' Vf.useIt (Vf.dn_mk (x := "text_of") (st := Vf.s_textOf) (ps := ["lines"]) KX G ?a ?l ?c ?k (fun _ _ _ _ _ _ us hl => match us, hl with | [_], _ => rfl)) (fun d_textOf => ?_)
    (case a => k_is); (case l => k_is); (case c => k_is); (case k => k_is)
    refine' Vf.useIt (Vf.dn_mk (x := "line_starts") (st := Vf.s_lineStarts) (ps := ["text"]) KX G ?a ?l ?c ?k (fun _ _ _ _ _ _ us hl => match us, hl with | [_], _ => rfl)) (fun d_lineStarts => ?_)
    (case a => k_is); (case l => k_is); (case c => k_is); (case k => k_is)
    refine' Vf.useIt (Vf.dn_mk (x := "_law_pen") (st := Vf.s_pen) (ps := ["_law_script"]) KX G ?a ?l ?c ?k (fun _ _ _ _ _ _ us hl => match us, hl with | [_], _ => rfl)) (fun d_pen => ?_)
    (case a => k_is); (case l => k_is); (case c => k_is); (case k => k_is)
    refine' Vf.useIt (Vf.dn_mk (x := "_law_draw") (st := Vf.s_draw) (ps := ["_law_pen_here", "_law_many"]) KX G ?a ?l ?c ?k (fun _ _ _ _ _ _ us hl => match us, hl with | [_, _], _ => rfl)) (fun d_draw => ?_)
    (case a => k_is); (case l => k_is); (case c => k_is); (case k => k_is)
    refine' Vf.useIt (Vf.dn_mk (x := "_law_told") (st := Vf.s_told) (ps := ["_law_error"]) KX G ?a ?l ?c ?k (fun _ _ _ _ _ _ us hl => match us, hl with | [_], _ => rfl)) (fun d_told => ?_)
    (case a => k_is); (case l => k_is); (case c => k_is); (case k => k_is)
    refine' Vf.useIt (Vf.dn_mk (x := "_law_all_signs") (st := Vf.s_lawSigns) (ps := []) KX G ?a ?l ?c ?k (fun _ _ _ _ _ _ us hl => match us, hl with | [], _ => rfl)) (fun d_lawSigns => ?_)
    (case a => k_is); (case l => k_is); (case c => k_is); (case k => k_is)
    refine' Vf.useIt (Vf.dn_mk (x := "is_word") (st := Vf.s_isWord) (ps := ["value"]) KX G ?a ?l ?c ?k (fun _ _ _ _ _ _ us hl => match us, hl with | [_], _ => rfl)) (fun d_isWord => ?_)
    (case a => k_is); (case l => k_is); (case c => k_is); (case k => k_is)
    refine' Vf.useIt (Vf.dn_mk (x := "_law_pick") (st := Vf.s_pick) (ps := ["_law_pen_here", "_law_some"]) KX G ?a ?l ?c ?k (fun _ _ _ _ _ _ us hl => match us, hl with | [_, _], _ => rfl)) (fun d_pick => ?_)
    (case a => k_is); (case l => k_is); (case c => k_is); (case k => k_is)
    refine' Vf.useIt (Vf.dn_mk (x := "_law_word") (st := Vf.s_lawWord) (ps := ["_law_pen_here", "_law_signs", "_law_most"]) KX G ?a ?l ?c ?k (fun _ _ _ _ _ _ us hl => match us, hl with | [_, _, _], _ => rfl)) (fun d_lawWord => ?_)
    (case a => k_is); (case l => k_is); (case c => k_is); (case k => k_is)
    refine' Vf.useIt (Vf.dn_mk (x := "_law_text") (st := Vf.s_lawText) (ps := ["_law_pen_here", "_law_signs", "_law_most"]) KX G ?a ?l ?c ?k (fun _ _ _ _ _ _ us hl => match us, hl with | [_, _, _], _ => rfl)) (fun d_lawText => ?_)
    (case a => k_is); (case l => k_is); (case c => k_is); (case k => k_is)
    refine' Vf.useIt (Vf.dn_mk (x := "_law_first_errors") (st := Vf.s_firstErrors) (ps := ["_law_a", "_law_b", "_law_c"]) KX G ?a ?l ?c ?k (fun _ _ _ _ _ _ us hl => match us, hl with | [_, _, _], _ => rfl)) (fun d_firstErrors => ?_)
    (case a => k_is); (case l => k_is); (case c => k_is); (case k => k_is)
    refine' Vf.useIt (Vf.dn_mk (x := "_law_other_errors") (st := Vf.s_otherErrors) (ps := ["_law_a", "_law_b"]) KX G ?a ?l ?c ?k (fun _ _ _ _ _ _ us hl => match us, hl with | [_, _], _ => rfl)) (fun d_otherErrors => ?_)
    (case a => k_is); (case l => k_is); (case c => k_is); (case k => k_is)
    refine' Vf.useIt (Vf.dn_mk (x := "_law_are_signs_right") (st := Vf.s_areSignsRight) (ps := ["_law_pen_here"]) KX G ?a ?l ?c ?k (fun _ _ _ _ _ _ us hl => match us, hl with | [_], _ => rfl)) (fun d_areSignsRight => ?_)
    (case a => k_is); (case l => k_is); (case c => k_is); (case k => k_is)
    refine' Vf.useIt (Vf.dn_mk (x := "_law_are_lines_right") (st := Vf.s_areLinesRight) (ps := ["_law_pen_here"]) KX G ?a ?l ?c ?k (fun _ _ _ _ _ _ us hl => match us, hl with | [_], _ => rfl)) (fun d_areLinesRight => ?_)
    (case a => k_is); (case l => k_is); (case c => k_is); (case k => k_is)
    refine' Vf.useT (w := w) KX ⟨PySem.W.mg_none_of KX G ?z_len, PySem.W.mg_none_of KX G ?z_str, PySem.W.mg_none_of KX G ?z_isinstance, PySem.W.mg_none_of KX G ?z_all, PySem.W.mg_none_of KX G ?z_tuple, PySem.W.mg_none_of KX G ?z_enumerate, PySem.W.mg_none_of KX G ?z_int, PySem.W.mg_none_of KX G ?z_list, PySem.W.mg_none_of KX G ?z_range, PySem.W.mg_none_of KX G ?z_ValueError, PySem.W.mg_none_of KX G ?z_min, PySem.W.mg_none_of KX G ?z_repr, Vf.cst_str KX G ?a_SIGNS ?e_SIGNS, Vf.cst_int KX G ?a_LONGEST_WORD⟩ (fun T => ?_)
    (case z_len => k_is)
    (case z_str => k_is)
    (case z_isinstance => k_is)
    (case z_all => k_is)
    (case z_tuple => k_is)
    (case z_enumerate => k_is)
    (case z_int => k_is)
    (case z_list => k_is)
    (case z_range => k_is)
    (case z_ValueError => k_is)
    (case z_min => k_is)
    (case z_repr => k_is)
    (case a_SIGNS => k_is)
    (case e_SIGNS => decide +kernel)
    (case a_LONGEST_WORD => k_is)
    refine' Vf.law_endG KX G hmg ?a ?l ?c ?k (fun base fd F => Vf.all_ok T d_allSigns d_isSign d_isText d_linesOf d_textOf d_lineStarts d_pen d_draw d_told d_lawSigns d_isWord d_pick d_lawWord d_lawText d_firstErrors d_otherErrors d_areSignsRight d_areLinesRight k_BadText k_BadWord k_BadNumber k_BadStep k_TooMany k_TooHeavy k_Refused k_NoTongue k_BadName k_TakenName k_NoFile k_NoScript k_NoGuard k_Broken k_BadPlace k_NoLine k_Touched k_AllLines k_NoHidden k_Unlike k_Conflict k_MayConflict k_NothingNoted k_MixedTongues k_NothingToUndo k_NothingToRedo eW.1 eW.2 (by decide) (by decide) base F)
    (case a => k_is); (case l => k_is); (case c => k_is); (case k => k_is)
