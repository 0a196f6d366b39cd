package errand_test

import (
	"go/ast"
	"go/constant"
	"go/types"
	"maps"
	"runtime"
	"slices"
	"testing"
)

// No call reaches a table at package level, its own or the library's, that is greater than rule 3a of LANGUAGE.md allows, nor twice that in all.
func TestTablesAreShort(t *testing.T) {
	s := readSource(t, "errand/errand")
	for _, call := range []string{"Check", "Print", "Run", "Code", "Exec", "Start", "Errand.Next", "Errand.Tell", "Errand.Value"} {
		tables := s.tables(s.named(t, "errand/errand", call))
		sum := 0.0
		for _, name := range slices.Sorted(maps.Keys(tables)) {
			sum += tables[name]
			if tables[name] > 1 {
				t.Errorf("%s reaches %s, %.2f times what a table may hold", call, name, tables[name])
			}
		}
		if sum > 2 {
			t.Errorf("%s reaches tables of %.2f times what one may hold: %v", call, sum, tables)
		}
	}
}

// What TestTablesAreShort finds nothing of is found where it is: named, behind a method of an error, in rows, and among the program's own.
func TestTablesAreFound(t *testing.T) {
	s := readSource(t, "errand/errand", "strconv", "strings", "unicode")
	for _, c := range []struct {
		path, name, table string
		least, most       float64
	}{
		{"strconv", "Quote", "strconv.isPrint16", 1.5, 2},
		{"strconv", "Quote", "strconv.isPrint32", 2, 4},
		{"strconv", "Atoi", "strconv.isPrint32", 2, 4},
		{"strings", "Trim", "unicode/utf8.first", 256.0 / 250, 256.0 / 250},
		{"strings", "Fields", "strings.asciiSpace", 256.0 / 250, 256.0 / 250},
		{"unicode", "IsLower", "unicode._Ll", 1, 20},
		{"errand/errand", "Check", "errand/lang.ops", 7.0 / 50, 7.0 / 50},
		{"errand/errand", "Start", "errand/machine.kindOf", 7.0 / 150, 7.0 / 150},
	} {
		share := s.tables(s.named(t, c.path, c.name))[c.table]
		if share < c.least-1e-9 || share > c.most+1e-9 {
			t.Errorf("%s.%s reaches %.2f of %s, want %.2f to %.2f", c.path, c.name, share, c.table, c.least, c.most)
		}
	}
}

// tables answers the tables that a function reaches, and of each its share of what a table may hold: 1 is all of it.
func (s *source) tables(from types.Object) map[string]float64 {
	found := map[string]float64{}
	for _, o := range s.reached(from) {
		if v, ok := o.(*types.Var); ok {
			if share := s.share(v); share > 0 {
				found[v.Pkg().Path()+"."+v.Name()] = share
			}
		}
	}
	return found
}

func (s *source) share(v *types.Var) float64 {
	sum := 0.0
	spec := s.decls[v].(*ast.ValueSpec)
	if a, ok := v.Type().Underlying().(*types.Array); ok && len(spec.Values) == 0 {
		sum = float64(a.Len()) * unit(a.Elem())
	}
	ast.Inspect(spec, func(n ast.Node) bool {
		if lit, ok := n.(*ast.CompositeLit); ok {
			switch t := s.info.Types[lit].Type.Underlying().(type) {
			case *types.Array:
				sum += float64(t.Len()) * unit(t.Elem())
			case *types.Slice:
				sum += float64(s.length(lit)) * unit(t.Elem())
			case *types.Map:
				sum += float64(len(lit.Elts)) * row
			}
		}
		return true
	})
	return sum
}

// length answers how many elements a slice is written out with.
func (s *source) length(lit *ast.CompositeLit) int64 {
	at, most := int64(0), int64(0)
	for _, e := range lit.Elts {
		if pair, ok := e.(*ast.KeyValueExpr); ok {
			at, _ = constant.Int64Val(s.info.Types[pair.Key].Value)
		}
		at++
		most = max(most, at)
	}
	return most
}

const row = 1.0 / 50

// unit is the share of one element: rule 3a lets so many of its kind stand in a table.
func unit(element types.Type) float64 {
	b, ok := element.Underlying().(*types.Basic)
	if !ok {
		return row
	}
	switch size := types.SizesFor("gc", runtime.GOARCH).Sizeof(b); {
	case b.Kind() == types.String:
		return 1.0 / 140
	case size <= 2:
		return 1.0 / 250
	case size <= 4:
		return 1.0 / 200
	}
	return 1.0 / 150
}
