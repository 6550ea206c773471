package tests

import (
	"bytes"
	"go/ast"
	"go/format"
	"go/parser"
	"go/token"
	"os"
	"path/filepath"
	"slices"
	"strconv"
	"testing"
)

var allowedImports = []string{"bytes", "cmp", "container/heap", "errors", "iter", "maps", "math", "math/big", "math/bits", "slices", "sort", "strconv", "strings", "sync", "sync/atomic", "unicode", "unicode/utf8"}

const longestFunction = 60

// The program keeps to what the language page lets a look at its text decide.
func TestLanguage(t *testing.T) {
	files, _ := filepath.Glob("../impl/*.go")
	if len(files) == 0 {
		t.Fatal("no program")
	}
	for _, name := range files {
		src, err := os.ReadFile(name)
		if err != nil {
			t.Fatal(err)
		}
		if laid, err := format.Source(src); err != nil || !bytes.Equal(laid, src) {
			t.Errorf("%s: not gofmt's layout (%v)", name, err)
		}
		if bytes.Contains(src, []byte("//go:")) {
			t.Errorf("%s: a //go: line", name)
		}
		fset := token.NewFileSet()
		file, err := parser.ParseFile(fset, name, src, 0)
		if err != nil {
			t.Fatal(err)
		}
		for _, i := range file.Imports {
			if path, _ := strconv.Unquote(i.Path.Value); !slices.Contains(allowedImports, path) {
				t.Errorf("%s: imports %s", name, path)
			}
		}
		for _, d := range file.Decls {
			if f, ok := d.(*ast.FuncDecl); ok {
				if lines := fset.Position(f.End()).Line - fset.Position(f.Pos()).Line + 1; lines > longestFunction {
					t.Errorf("%s: %s has %d lines", name, f.Name.Name, lines)
				}
			}
		}
	}
}
