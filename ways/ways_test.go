// Package ways_test checks that each layer uses the language features that the document's section "Ways" names for it,
// in code of its own package that its exported functions reach.
package ways_test

import (
	"go/ast"
	"go/build"
	"go/importer"
	"go/parser"
	"go/token"
	"go/types"
	"os/exec"
	"path/filepath"
	"slices"
	"strings"
	"testing"
)

// waysOfLayers are the features of the layers that are built.
func waysOfLayers() map[string][]string {
	return map[string][]string{
		"measure":  {"range-string", "function-field", "map", "method-expression", "generic-function", "label"},
		"grade":    {"function-field", "map", "generic-function", "generic-type", "range-function", "variadic", "struct-compared"},
		"weigh":    {"embedding", "promoted", "array", "range-function", "label"},
		"bin":      {"range-function", "closure", "variadic", "generic-function", "map", "range-map"},
		"path":     {"constant-table", "iota", "range-function", "array-compared", "closure", "array", "label"},
		"dry":      {"closure", "function-field", "generic-function", "range-function", "variadic", "array", "label"},
		"blend":    {"closure", "range-function", "generic-function", "label", "embedding"},
		"load":     {"function-field", "array", "closure", "map", "range-function", "three-index", "generic-function", "label"},
		"ledger":   {"map", "method-value", "range-function", "function-field", "constant-table", "closure", "range-integer"},
		"terminal": {"function-field", "map", "method-value", "range-function", "copy", "variadic"},
	}
}

func TestWays(t *testing.T) {
	for layer, wanted := range waysOfLayers() {
		found := featuresOf(t, layer)
		for _, feature := range wanted {
			if !found[feature] {
				t.Errorf("%s does not use %s", layer, feature)
			}
		}
	}
}

// module loads the packages of the project from their sources.
type module struct {
	files    *token.FileSet
	info     *types.Info
	packages map[string]*types.Package
	syntax   map[string][]*ast.File
	standard types.Importer
}

// newModule returns a module of which nothing is loaded yet.
func newModule(t *testing.T) *module {
	t.Helper()
	if build.Default.GOROOT == "" {
		root, err := exec.Command("go", "env", "GOROOT").Output()
		if err != nil {
			t.Fatal(err)
		}
		build.Default.GOROOT = strings.TrimSpace(string(root))
	}
	m := &module{files: token.NewFileSet(), packages: map[string]*types.Package{}, syntax: map[string][]*ast.File{}}
	m.info = &types.Info{
		Types: map[ast.Expr]types.TypeAndValue{}, Defs: map[*ast.Ident]types.Object{}, Uses: map[*ast.Ident]types.Object{},
		Selections: map[*ast.SelectorExpr]*types.Selection{}, Instances: map[*ast.Ident]types.Instance{},
	}
	m.standard = importer.ForCompiler(m.files, "source", nil)
	return m
}

// Import implements types.Importer.
func (m *module) Import(path string) (*types.Package, error) {
	folder, isOwn := strings.CutPrefix(path, "bushel/")
	if !isOwn {
		return m.standard.Import(path)
	}
	if p := m.packages[path]; p != nil {
		return p, nil
	}
	names, err := filepath.Glob(filepath.Join("..", folder, "*.go"))
	if err != nil {
		return nil, err
	}
	var syntax []*ast.File
	for _, name := range names {
		if strings.HasSuffix(name, "_test.go") {
			continue
		}
		file, err := parser.ParseFile(m.files, name, nil, parser.SkipObjectResolution)
		if err != nil {
			return nil, err
		}
		syntax = append(syntax, file)
	}
	config := types.Config{Importer: m}
	p, err := config.Check(path, m.files, syntax, m.info)
	m.packages[path], m.syntax[path] = p, syntax
	return p, err
}

// featuresOf returns the features of a layer that its exported functions reach.
func featuresOf(t *testing.T, layer string) map[string]bool {
	t.Helper()
	m := newModule(t)
	path := "bushel/" + layer
	if _, err := m.Import(path); err != nil {
		t.Fatal(err)
	}
	declarations, reached := map[types.Object]ast.Node{}, []types.Object{}
	for _, file := range m.syntax[path] {
		for _, d := range file.Decls {
			switch d := d.(type) {
			case *ast.FuncDecl:
				o := m.info.Defs[d.Name]
				declarations[o] = d
				if d.Name.IsExported() {
					reached = append(reached, o)
				}
			case *ast.GenDecl:
				for _, s := range d.Specs {
					m.declare(declarations, d, s)
				}
			}
		}
	}
	found := map[string]bool{}
	for i := 0; i < len(reached); i++ {
		called := calledIn(declarations[reached[i]])
		found["constant-table"] = found["constant-table"] || isTable(declarations[reached[i]])
		ast.Inspect(declarations[reached[i]], func(n ast.Node) bool {
			m.note(found, n)
			if s, ok := n.(*ast.SelectorExpr); ok && !called[s] {
				selection := m.info.Selections[s]
				found["method-value"] = found["method-value"] || selection != nil && selection.Kind() == types.MethodVal
			}
			if name, ok := n.(*ast.Ident); ok {
				o := origin(m.info.Uses[name])
				if declarations[o] != nil && !slices.Contains(reached, o) {
					reached = append(reached, o)
				}
			}
			return true
		})
	}
	return found
}

// calledIn returns the expressions that are called in a declaration.
func calledIn(declaration ast.Node) map[ast.Expr]bool {
	called := map[ast.Expr]bool{}
	ast.Inspect(declaration, func(n ast.Node) bool {
		if c, ok := n.(*ast.CallExpr); ok {
			called[ast.Unparen(c.Fun)] = true
		}
		return true
	})
	return called
}

// declare adds what is declared at the package level outside functions to declarations.
func (m *module) declare(declarations map[types.Object]ast.Node, d *ast.GenDecl, s ast.Spec) {
	switch s := s.(type) {
	case *ast.TypeSpec:
		declarations[m.info.Defs[s.Name]] = s
	case *ast.ValueSpec:
		for _, name := range s.Names {
			declarations[m.info.Defs[name]] = s
			if d.Tok == token.CONST {
				// A constant can repeat the expression of one above it.
				declarations[m.info.Defs[name]] = d
			}
		}
	}
}

// origin returns the declared function of an instance of a generic one.
func origin(o types.Object) types.Object {
	if f, ok := o.(*types.Func); ok {
		return f.Origin()
	}
	return o
}

// note notes the features that a node of the syntax is.
func (m *module) note(found map[string]bool, n ast.Node) {
	switch n := n.(type) {
	case *ast.LabeledStmt:
		found["label"] = true
	case *ast.MapType:
		found["map"] = true
	case *ast.FuncLit:
		found["closure"] = true
	case *ast.Ellipsis:
		found["variadic"] = found["variadic"] || n.Elt != nil
	case *ast.FuncDecl:
		found["generic-function"] = found["generic-function"] || n.Type.TypeParams != nil
	case *ast.TypeSpec:
		found["generic-type"] = found["generic-type"] || n.TypeParams != nil
	case *ast.StructType:
		for _, f := range n.Fields.List {
			found["embedding"] = found["embedding"] || len(f.Names) == 0
			found["function-field"] = found["function-field"] || is[*types.Signature](m, f.Type)
		}
	case *ast.ArrayType:
		found["array"] = found["array"] || n.Len != nil
	case *ast.RangeStmt:
		found["range-function"] = found["range-function"] || is[*types.Signature](m, n.X)
		found["range-map"] = found["range-map"] || is[*types.Map](m, n.X)
		basic, _ := m.under(n.X).(*types.Basic)
		found["range-string"] = found["range-string"] || basic != nil && basic.Info()&types.IsString != 0
		found["range-integer"] = found["range-integer"] || basic != nil && basic.Info()&types.IsInteger != 0
	case *ast.SliceExpr:
		found["three-index"] = found["three-index"] || n.Slice3
	case *ast.SelectorExpr:
		s := m.info.Selections[n]
		found["method-expression"] = found["method-expression"] || s != nil && s.Kind() == types.MethodExpr
		found["promoted"] = found["promoted"] || s != nil && len(s.Index()) > 1
	case *ast.BinaryExpr:
		isComparison := n.Op == token.EQL || n.Op == token.NEQ
		found["struct-compared"] = found["struct-compared"] || isComparison && is[*types.Struct](m, n.X)
		found["array-compared"] = found["array-compared"] || isComparison && is[*types.Array](m, n.X)
	case *ast.Ident:
		found["struct-compared"] = found["struct-compared"] || compares[*types.Struct](m, n)
		found["array-compared"] = found["array-compared"] || compares[*types.Array](m, n)
		found["iota"] = found["iota"] || m.info.Uses[n] == types.Universe.Lookup("iota")
		found["copy"] = found["copy"] || m.info.Uses[n] == types.Universe.Lookup("copy")
	}
}

// under returns the underlying type of an expression.
func (m *module) under(e ast.Expr) types.Type {
	if t := m.info.Types[e].Type; t != nil {
		return t.Underlying()
	}
	return nil
}

// is reports whether the underlying type of an expression is of a kind.
func is[T types.Type](m *module, e ast.Expr) bool {
	_, ok := m.under(e).(T)
	return ok
}

// isTable reports whether a declaration at the package level is a variable with a written-out value.
func isTable(declaration ast.Node) bool {
	s, ok := declaration.(*ast.ValueSpec)
	return ok && slices.ContainsFunc(s.Values, func(e ast.Expr) bool {
		_, isWrittenOut := e.(*ast.CompositeLit)
		return isWrittenOut
	})
}

// compares reports whether a name is that of a generic function, such as slices.Contains, that compares values of a kind of type.
func compares[T types.Type](m *module, name *ast.Ident) bool {
	instance, ok := m.info.Instances[name]
	f, isFunction := m.info.Uses[name].(*types.Func)
	if !ok || !isFunction {
		return false
	}
	parameters := f.Signature().TypeParams()
	for i := range min(parameters.Len(), instance.TypeArgs.Len()) {
		constraint, _ := parameters.At(i).Constraint().Underlying().(*types.Interface)
		_, isOfKind := instance.TypeArgs.At(i).Underlying().(T)
		if isOfKind && constraint != nil && constraint.IsComparable() {
			return true
		}
	}
	return false
}
