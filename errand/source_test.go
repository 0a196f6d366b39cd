package errand_test

import (
	"encoding/json"
	"errors"
	"go/ast"
	"go/parser"
	"go/token"
	"go/types"
	"io"
	"os"
	"os/exec"
	"path/filepath"
	"runtime"
	"strings"
	"testing"
)

// source is the program and the library below it, as they are written.
type source struct {
	files *token.FileSet
	packs map[string]*types.Package
	info  types.Info
	decls map[types.Object]ast.Node // of each function, type, constant and variable at package level
}

// listed is what go list tells of a package.
type listed struct {
	ImportPath, Dir string
	GoFiles         []string
}

// readSource reads packages and all that they import.
func readSource(t *testing.T, paths ...string) *source {
	t.Helper()
	s := &source{files: token.NewFileSet(), packs: map[string]*types.Package{"unsafe": types.Unsafe}, decls: map[types.Object]ast.Node{}}
	s.info.Types = map[ast.Expr]types.TypeAndValue{}
	s.info.Defs = map[*ast.Ident]types.Object{}
	s.info.Uses = map[*ast.Ident]types.Object{}
	for _, p := range listPackages(t, paths) {
		if err := s.read(p); err != nil {
			t.Fatal(err)
		}
	}
	return s
}

// listPackages lists packages, each behind all that it imports.
func listPackages(t *testing.T, paths []string) []listed {
	t.Helper()
	list := exec.Command("go", append([]string{"list", "-deps", "-json=ImportPath,Dir,GoFiles"}, paths...)...)
	list.Env = append(os.Environ(), "CGO_ENABLED=0")
	out, err := list.Output()
	if err != nil {
		t.Fatal(err)
	}
	var packs []listed
	lines := json.NewDecoder(strings.NewReader(string(out)))
	for {
		var p listed
		switch err := lines.Decode(&p); {
		case err == io.EOF:
			return packs
		case err != nil:
			t.Fatal(err)
		}
		packs = append(packs, p)
	}
}

func (s *source) Import(path string) (*types.Package, error) {
	if p := s.packs[path]; p != nil {
		return p, nil
	}
	return nil, errors.New("no package " + path)
}

func (s *source) read(p listed) error {
	if s.packs[p.ImportPath] != nil {
		return nil
	}
	var list []*ast.File
	for _, name := range p.GoFiles {
		file, err := parser.ParseFile(s.files, filepath.Join(p.Dir, name), nil, parser.SkipObjectResolution)
		if err != nil {
			return err
		}
		list = append(list, file)
	}
	check := types.Config{Importer: s, Sizes: types.SizesFor("gc", runtime.GOARCH), IgnoreFuncBodies: isBeneath(p.ImportPath)}
	pack, err := check.Check(p.ImportPath, s.files, list, &s.info)
	s.packs[p.ImportPath] = pack
	for _, file := range list {
		for _, d := range file.Decls {
			s.note(d)
		}
	}
	return err
}

// isBeneath tells of what runs beneath every program, whatever its calls reach.
func isBeneath(path string) bool {
	return path == "runtime" || strings.HasPrefix(path, "internal/runtime/")
}

func (s *source) note(d ast.Decl) {
	switch d := d.(type) {
	case *ast.FuncDecl:
		s.decls[s.info.Defs[d.Name]] = d
	case *ast.GenDecl:
		for _, spec := range d.Specs {
			switch spec := spec.(type) {
			case *ast.TypeSpec:
				s.decls[s.info.Defs[spec.Name]] = spec
			case *ast.ValueSpec:
				for _, name := range spec.Names {
					s.decls[s.info.Defs[name]] = spec
				}
			}
		}
	}
}

// named answers a function of a package, or a method ("Type.Method").
func (s *source) named(t *testing.T, path, name string) types.Object {
	t.Helper()
	pack := s.packs[path]
	first, method, isMethod := strings.Cut(name, ".")
	found := pack.Scope().Lookup(first)
	if isMethod {
		found, _, _ = types.LookupFieldOrMethod(found.Type(), true, pack, method)
	}
	if found == nil {
		t.Fatalf("there is no %s in %s", name, path)
	}
	return found
}

// reached answers what is declared at package level and reached from a function: what is named there, and so on; and all methods of a type that is named, since an interface may lead to them.
func (s *source) reached(from types.Object) []types.Object {
	var found []types.Object
	seen := map[types.Object]bool{}
	reach := func(o types.Object) {
		if f, ok := o.(*types.Func); ok {
			o = f.Origin()
		}
		if s.decls[o] != nil && !seen[o] {
			seen[o] = true
			found = append(found, o)
		}
	}
	reach(from)
	for i := 0; i < len(found); i++ {
		if name, ok := found[i].(*types.TypeName); ok {
			if t, ok := name.Type().(*types.Named); ok {
				for m := range t.Methods() {
					reach(m)
				}
			}
		}
		ast.Inspect(s.decls[found[i]], func(n ast.Node) bool {
			if name, ok := n.(*ast.Ident); ok {
				reach(s.info.Uses[name])
			}
			return true
		})
	}
	return found
}
