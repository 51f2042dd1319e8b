package rules

import (
	"bytes"
	"go/ast"
	"go/format"
	"go/parser"
	"go/token"
	"os"
	"path/filepath"
	"slices"
	"strconv"
	"strings"
	"testing"
)

// layers are the packages of the program, each behind all those that it may call.
func layers() []string {
	return strings.Fields(`api num wide ratio span vote crc frame mail pulse grade track image conf route
		sense wheel fuse still roll link place brake watch nav line box world admit make judge
		spot tail limit bits packet apart word yard`)
}

// library are the packages of the library that the language has.
func library() []string {
	return strings.Fields(`bytes cmp container/heap errors iter maps math math/bits slices sort strconv
		strings sync sync/atomic unicode unicode/utf8`)
}

// source is one Go file of a layer.
type source struct {
	layer string
	path  string
	text  []byte
	set   *token.FileSet
	file  *ast.File
}

// sources are the Go files of all layers, without their tests.
func sources(t *testing.T) []source {
	t.Helper()
	var all []source
	for _, layer := range layers() {
		paths, err := filepath.Glob(filepath.Join("..", layer, "*.go"))
		if err != nil {
			t.Fatal(err)
		}
		found := len(all)
		for _, path := range paths {
			if !strings.HasSuffix(path, "_test.go") {
				all = append(all, parsed(t, layer, path))
			}
		}
		if len(all) == found {
			t.Errorf("%s has no Go file", layer)
		}
	}
	return all
}

func parsed(t *testing.T, layer, path string) source {
	t.Helper()
	text, err := os.ReadFile(path)
	if err != nil {
		t.Fatal(err)
	}
	set := token.NewFileSet()
	file, err := parser.ParseFile(set, path, text, parser.ParseComments|parser.SkipObjectResolution)
	if err != nil {
		t.Fatal(err)
	}
	return source{layer, path, text, set, file}
}

// LANGUAGE.md 1, and that a layer calls only those below it.
func TestImports(t *testing.T) {
	order := layers()
	for _, s := range sources(t) {
		for _, i := range s.file.Imports {
			path, _ := strconv.Unquote(i.Path.Value)
			below, own := strings.CutPrefix(path, "odograph/")
			if !own {
				if !slices.Contains(library(), path) {
					t.Errorf("%s imports %s, which the language does not have", s.path, path)
				}
				continue
			}
			at := slices.Index(order, below)
			if at < 0 || at >= slices.Index(order, s.layer) {
				t.Errorf("%s imports %s, which is not below it", s.path, path)
			}
		}
	}
}

// LANGUAGE.md 1 and 2: what the language has of iter and sync, and no printing.
func TestCalls(t *testing.T) {
	locks := []string{"Mutex", "RWMutex", "WaitGroup", "Once"}
	for _, s := range sources(t) {
		ast.Inspect(s.file, func(n ast.Node) bool {
			switch n := n.(type) {
			case *ast.SelectorExpr:
				from, ok := n.X.(*ast.Ident)
				if ok && from.Name == "iter" && strings.HasPrefix(n.Sel.Name, "Pull") || ok && from.Name == "sync" && !slices.Contains(locks, n.Sel.Name) {
					t.Errorf("%s uses %s.%s", s.set.Position(n.Pos()), from.Name, n.Sel.Name)
				}
			case *ast.CallExpr:
				if f, ok := n.Fun.(*ast.Ident); ok && (f.Name == "print" || f.Name == "println") {
					t.Errorf("%s prints", s.set.Position(n.Pos()))
				}
			}
			return true
		})
	}
}

// LANGUAGE.md 2: no lines for the compiler, no build tags, and no file but Go files.
func TestFiles(t *testing.T) {
	for _, s := range sources(t) {
		for _, group := range s.file.Comments {
			for _, c := range group.List {
				if strings.HasPrefix(c.Text, "//go:") || strings.HasPrefix(c.Text, "// +build") {
					t.Errorf("%s: %s", s.set.Position(c.Pos()), c.Text)
				}
			}
		}
	}
	for _, layer := range layers() {
		entries, err := os.ReadDir(filepath.Join("..", layer))
		if err != nil {
			t.Fatal(err)
		}
		for _, e := range entries {
			if !e.IsDir() && filepath.Ext(e.Name()) != ".go" {
				t.Errorf("%s/%s is not a Go file", layer, e.Name())
			}
		}
	}
}

// LANGUAGE.md 9: short functions, and gofmt's layout.
func TestLayout(t *testing.T) {
	const most = 60
	for _, s := range sources(t) {
		for _, d := range s.file.Decls {
			f, ok := d.(*ast.FuncDecl)
			if !ok {
				continue
			}
			lines := s.set.Position(f.End()).Line - s.set.Position(f.Pos()).Line + 1
			if lines > most {
				t.Errorf("%s: %s has %d lines", s.set.Position(f.Pos()), f.Name.Name, lines)
			}
		}
		formatted, err := format.Source(s.text)
		if err != nil {
			t.Fatal(err)
		}
		if !bytes.Equal(formatted, s.text) {
			t.Errorf("%s does not have gofmt's layout", s.path)
		}
	}
}
