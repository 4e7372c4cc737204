package ledger

import (
	"strings"

	"bushel/api"
)

// checkRule returns the first error of a rule behind some earlier ones, or OK.
func checkRule(earlier []api.Rule, r api.Rule) api.Errno {
	if !isRuleName(r.Name) {
		return api.ErrName
	}
	if hasRule(earlier, r.Name) {
		return api.ErrTwice
	}
	return checkValue(r.Value)
}

// isRuleName reports whether a text is the name of a rule.
func isRuleName(s string) bool {
	return isFrom(1, api.MaxName, len(s)) && runOf(s, isLetter) == len(s)
}

// hasRule reports whether one of some rules has a name.
func hasRule(rules []api.Rule, name string) bool {
	for _, r := range rules {
		if r.Name == name {
			return true
		}
	}
	return false
}

// checkValue returns the first error of an expression that is to be a number, or OK.
func checkValue(x api.Expr) api.Errno {
	kind, e := CheckExpr(x)
	if e == api.OK && kind != number {
		return api.ErrType
	}
	return e
}

// CheckTariff returns the first error of a tariff, or OK.
func CheckTariff(t []api.Rule) api.Errno {
	if len(t) > api.MaxRules {
		return api.ErrMany
	}
	for i, r := range t {
		if e := checkRule(t[:i], r); e != api.OK {
			return e
		}
	}
	return api.OK
}

// PrintTariff returns the text of a tariff.
func PrintTariff(t []api.Rule) (string, api.Errno) {
	if e := CheckTariff(t); e != api.OK {
		return "", e
	}
	var lines strings.Builder
	for _, r := range t {
		text, e := Print(r.Value)
		if e != api.OK {
			return "", e
		}
		lines.WriteString(r.Name + ": " + text + "\n")
	}
	return lines.String(), api.OK
}

// readRule returns the rule of a line behind some earlier rules, or its first error.
func readRule(earlier []api.Rule, line string) (api.Rule, api.Errno) {
	if len(earlier) == api.MaxRules {
		return api.Rule{}, api.ErrMany
	}
	name, text, hasColon := strings.Cut(line, ":")
	name = strings.Trim(name, " ")
	if !hasColon || !isRuleName(name) {
		return api.Rule{}, api.ErrSyntax
	}
	x, _, e := Read(text)
	if e != api.OK {
		return api.Rule{}, e
	}
	if e := checkValue(x); e != api.OK {
		return api.Rule{}, e
	}
	if hasRule(earlier, name) {
		return api.Rule{}, api.ErrTwice
	}
	return api.Rule{Name: name, Value: x}, api.OK
}

// ReadTariff returns the tariff that a text describes, or the number of the first line with an error.
func ReadTariff(s string) ([]api.Rule, int, api.Errno) {
	if len(s) > api.MaxLog {
		return nil, 0, api.ErrLong
	}
	var rules []api.Rule
	for i, line := range strings.Split(s, "\n") {
		if strings.Trim(line, " ") == "" {
			continue
		}
		r, e := readRule(rules, line)
		if e != api.OK {
			return nil, i + 1, e
		}
		rules = append(rules, r)
	}
	return rules, 0, api.OK
}
