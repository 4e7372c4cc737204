package ledger_test

import (
	"fmt"
	"math/rand"
	"slices"
	"strings"
	"testing"

	"bushel/api"
	"bushel/ledger"
)

// P9.6: tariffs and their texts.

// outlines writes a tariff with all its parts.
func outlines(t []api.Rule) string {
	text := ""
	for _, r := range t {
		text += fmt.Sprintf("%q: %s\n", r.Name, outline(r.Value))
	}
	return text
}

// expectTariff checks what ReadTariff makes of a text.
func expectTariff(t *testing.T, text string, rules []api.Rule, line int, e api.Errno) {
	t.Helper()
	got, n, found := ledger.ReadTariff(text)
	what := fmt.Sprintf("ReadTariff of %.200q", text)
	expect(t, what, []any{n, found}, []any{line, e})
	expect(t, what, outlines(got), outlines(rules))
}

// letters returns names of rules: a, b, c and so on.
func letters(count int) []string {
	var l []string
	for i := range count {
		l = append(l, string(rune('a'+i)))
	}
	return l
}

func TestTextsOfTariffs(t *testing.T) {
	text := "store: " + exampleText + "\nfee: floor(mass / 7)\n"
	expect(t, "PrintTariff", ok[string](t, "PrintTariff")(ledger.PrintTariff(exampleTariff())), text)
	expect(t, "PrintTariff of no rules", ok[string](t, "PrintTariff")(ledger.PrintTariff(nil)), "")
	expectTariff(t, text, exampleTariff(), 0, api.OK)
	for _, other := range []string{
		strings.TrimSuffix(text, "\n"), "\n" + text, text + "\n  \n", strings.ReplaceAll(text, "\n", "\n    \n"),
		strings.ReplaceAll(text, ": ", ":"), strings.ReplaceAll(text, ": ", "   :    "), strings.ReplaceAll(text, "\n", "  \n   "), "  " + strings.ReplaceAll(text, " = ", "="),
	} {
		expectTariff(t, other, exampleTariff(), 0, api.OK)
	}
	for _, empty := range []string{"", "\n", " ", " \n\n  \n", strings.Repeat("\n", api.MaxLog)} {
		expectTariff(t, empty, nil, 0, api.OK)
	}
	expectTariff(t, "if: 1\nmass:mass", []api.Rule{rule("if", num("1")), rule("mass", tree("mass"))}, 0, api.OK)
	long := strings.Repeat("z", 24)
	expectTariff(t, long+": day\n", []api.Rule{rule(long, tree("day"))}, 0, api.OK)
	expect(t, "PrintTariff of a long name", ok[string](t, "PrintTariff")(ledger.PrintTariff([]api.Rule{rule(long, tree("day"))})), long+": day\n")
}

func TestErrorsOfTariffTexts(t *testing.T) {
	long := strings.Repeat("z", 25)
	for _, x := range []struct {
		text string
		line int
		e    api.Errno
	}{
		{"a", 1, api.ErrSyntax}, {"a 1", 1, api.ErrSyntax}, {": 1", 1, api.ErrSyntax}, {"  : 1", 1, api.ErrSyntax}, {"A: 1", 1, api.ErrSyntax}, {"a1: 1", 1, api.ErrSyntax}, {"a b: 1", 1, api.ErrSyntax},
		{"\ta: 1", 1, api.ErrSyntax}, {"a\t: 1", 1, api.ErrSyntax}, {"é: 1", 1, api.ErrSyntax}, {long + ": 1", 1, api.ErrSyntax}, {"a:", 1, api.ErrSyntax}, {"a: ", 1, api.ErrSyntax}, {"a: 1\r\n", 1, api.ErrSyntax},
		{"a: b: 1", 1, api.ErrSyntax}, {"a:: 1", 1, api.ErrSyntax}, {"a: 1 2", 1, api.ErrSyntax}, {"\t", 1, api.ErrSyntax}, {"\r\n", 1, api.ErrSyntax}, {"a: 1\n\n\nb: &\nc", 4, api.ErrSyntax}, {"a: 1\n b\n", 2, api.ErrSyntax},
		{"a: 1 = 2", 1, api.ErrType}, {"a: 1 and 2", 1, api.ErrType}, {"a: " + strings.Repeat("-", 32) + "1", 1, api.ErrLimit}, {"a: " + strings.Repeat("-", 256) + "1", 1, api.ErrMany},
		{"a: 1\na: 2", 2, api.ErrTwice}, {"a: 1\na: 1 = 2", 2, api.ErrType}, {"a: 1\na: &", 2, api.ErrSyntax}, {"a: 1\n\nb: 2\n a : 3\nc: &", 4, api.ErrTwice}, {"a: 1\nA: 1 = 2", 2, api.ErrSyntax},
		{"a:" + strings.Repeat(" ", 4095) + "1", 0, api.OK}, {"a:" + strings.Repeat(" ", 4096) + "1", 1, api.ErrLong}, {"a" + strings.Repeat(" ", 5000) + ": 1", 0, api.OK}, {"\nA:" + strings.Repeat(" ", 4096) + "1", 2, api.ErrSyntax},
		{"a: 1" + strings.Repeat("\n", api.MaxLog-4), 0, api.OK}, {"a: 1" + strings.Repeat("\n", api.MaxLog-3), 0, api.ErrLong}, {"a: &" + strings.Repeat("\n", api.MaxLog-3), 0, api.ErrLong}, {strings.Repeat("\n", api.MaxLog-1) + "a", api.MaxLog, api.ErrSyntax},
	} {
		want := []api.Rule(nil)
		if x.e == api.OK {
			want = []api.Rule{rule("a", num("1"))}
		}
		expectTariff(t, x.text, want, x.line, x.e)
	}
}

func TestManyRules(t *testing.T) {
	var rules []api.Rule
	text := ""
	for i, name := range letters(17) {
		rules = append(rules, rule(name, num(api.Rat(fmt.Sprint(i)))))
		text += fmt.Sprintf("%s: %d\n", name, i)
		if i < 16 {
			expect(t, "CheckTariff", ledger.CheckTariff(rules), api.OK)
			expect(t, "PrintTariff", ok[string](t, "PrintTariff")(ledger.PrintTariff(rules)), text)
			expectTariff(t, text, rules, 0, api.OK)
		}
	}
	expect(t, "CheckTariff of 17 rules", ledger.CheckTariff(rules), api.ErrMany)
	expectTariff(t, text, nil, 17, api.ErrMany)
	sixteen := strings.TrimSuffix(text, "q: 16\n")
	expectTariff(t, sixteen+"\n  \n", rules[:16], 0, api.OK)
	for _, bad := range []string{"q", "Q: 1", "q: &", "q: 1 = 2", "a: 1", "q:" + strings.Repeat(" ", 5000)} {
		expectTariff(t, sixteen+"\n"+bad, nil, 18, api.ErrMany)
	}
	expectTariff(t, "a\n"+text, nil, 1, api.ErrSyntax)
}

// TestLongRules checks expressions that are nearly too long to be read behind a colon and a blank.
func TestLongRules(t *testing.T) {
	short, long := []api.Rule{rule("a", num("1")), rule("b", sized(4095))}, []api.Rule{rule("a", num("1")), rule("b", sized(4096))}
	expectTariff(t, ok[string](t, "PrintTariff")(ledger.PrintTariff(short)), short, 0, api.OK)
	text := ok[string](t, "PrintTariff")(ledger.PrintTariff(long))
	expectTariff(t, text, nil, 2, api.ErrLong)
	expectTariff(t, strings.Replace(text, "b: ", "b:", 1), long, 0, api.OK)
}

func TestNamesOfRules(t *testing.T) {
	for name, e := range map[string]api.Errno{"a": api.OK, "mass": api.OK, strings.Repeat("q", 24): api.OK, "": api.ErrName, strings.Repeat("q", 25): api.ErrName, "a ": api.ErrName, "a1": api.ErrName, "B": api.ErrName, "a-b": api.ErrName, "ä": api.ErrName} {
		expect(t, "CheckTariff of the name "+name, ledger.CheckTariff([]api.Rule{rule(name, num("1"))}), e)
	}
	expect(t, "CheckTariff of two rules", ledger.CheckTariff([]api.Rule{rule("a", num("1")), rule("aa", num("1"))}), api.OK)
	expect(t, "CheckTariff of three rules", ledger.CheckTariff([]api.Rule{rule("a", num("1")), rule("b", num("1")), rule("a", num("2"))}), api.ErrTwice)
	expect(t, "CheckTariff of no rules", ledger.CheckTariff(nil), api.OK)
}

// randomTariff returns a tariff whose expressions have at most such a depth.
func randomTariff(r *rand.Rand, depth int) []api.Rule {
	var rules []api.Rule
	for _, name := range letters(r.Intn(5)) {
		x := randomExpr(r, 'n', depth)
		if _, e := exprError(x); e == api.OK {
			rules = append(rules, rule(name, x))
		}
	}
	return rules
}

// TestTariffsAgainstDefinition checks that texts of tariffs consist of those of expressions, line by line.
func TestTariffsAgainstDefinition(t *testing.T) {
	r := rand.New(rand.NewSource(8))
	for range 300 {
		rules := randomTariff(r, 4)
		var lines []string
		for _, x := range rules {
			lines = append(lines, x.Name+": "+ok[string](t, "Print")(ledger.Print(x.Value))+"\n")
		}
		text := ok[string](t, "PrintTariff")(ledger.PrintTariff(rules))
		expect(t, "PrintTariff", text, strings.Join(lines, ""))
		expectTariff(t, text, rules, 0, api.OK)
		if len(lines) == 0 {
			continue
		}
		at := r.Intn(len(lines))
		broken := slices.Clone(lines)
		broken[at] = "\n" + strings.TrimSuffix(broken[at], "\n") + " +\n"
		expectTariff(t, strings.Join(broken, ""), nil, at+2, api.ErrSyntax)
	}
}
