// Package language holds the program's text against the rules that it is written by: what it imports, its layout, how long its functions are, and what stands at package level.
package language

import (
	"bytes"
	"go/ast"
	"go/format"
	"go/parser"
	"go/token"
	"io/fs"
	"os"
	"path/filepath"
	"slices"
	"strings"
	"testing"
)

const longestFunction = 60

// eachFile hands each Go file of the program on to check, but for tests.
func eachFile(t *testing.T, check func(path string, text []byte, set *token.FileSet, file *ast.File)) {
	t.Helper()
	count := 0
	err := filepath.WalkDir("..", func(path string, entry fs.DirEntry, err error) error {
		if err != nil {
			return err
		}
		if entry.IsDir() && (entry.Name() == ".git" || entry.Name() == "sharedtests") {
			return filepath.SkipDir
		}
		if entry.IsDir() || !strings.HasSuffix(path, ".go") || strings.HasSuffix(path, "_test.go") {
			return nil
		}
		text, err := os.ReadFile(path)
		if err != nil {
			return err
		}
		set := token.NewFileSet()
		file, err := parser.ParseFile(set, path, text, parser.ParseComments)
		if err != nil {
			return err
		}
		count++
		check(path, text, set, file)
		return nil
	})
	if err != nil || count < 10 {
		t.Fatalf("%d files were seen: %v", count, err)
	}
}

func TestImports(t *testing.T) {
	allowed := []string{"bytes", "cmp", "container/heap", "errors", "iter", "maps", "math", "math/big", "math/bits", "slices", "sort", "strconv", "strings", "sync", "sync/atomic", "unicode", "unicode/utf8"}
	eachFile(t, func(path string, _ []byte, _ *token.FileSet, file *ast.File) {
		for _, spec := range file.Imports {
			name := strings.Trim(spec.Path.Value, `"`)
			if !strings.HasPrefix(name, "comb/") && !slices.Contains(allowed, name) {
				t.Errorf("%s imports %s", path, name)
			}
		}
	})
}

func TestLayout(t *testing.T) {
	eachFile(t, func(path string, text []byte, _ *token.FileSet, file *ast.File) {
		if plain, err := format.Source(text); err != nil || !bytes.Equal(plain, text) {
			t.Errorf("%s is not laid out as gofmt does", path)
		}
		for _, group := range file.Comments {
			for _, comment := range group.List {
				if strings.HasPrefix(comment.Text, "//go:") || strings.HasPrefix(comment.Text, "// +build") {
					t.Errorf("%s has a line for the tools: %s", path, comment.Text)
				}
			}
		}
	})
}

func TestFunctions(t *testing.T) {
	eachFile(t, func(path string, _ []byte, set *token.FileSet, file *ast.File) {
		for _, decl := range file.Decls {
			f, ok := decl.(*ast.FuncDecl)
			if ok && set.Position(f.End()).Line-set.Position(f.Pos()).Line >= longestFunction {
				t.Errorf("%s: %s is too long", path, f.Name.Name)
			}
		}
	})
}

// TestPackageLevel lets only pack have a value that is worked out at start-up, its sum's table.
func TestPackageLevel(t *testing.T) {
	eachFile(t, func(path string, _ []byte, _ *token.FileSet, file *ast.File) {
		for _, decl := range file.Decls {
			group, ok := decl.(*ast.GenDecl)
			if !ok || group.Tok != token.VAR {
				continue
			}
			for _, spec := range group.Specs {
				values := spec.(*ast.ValueSpec).Values
				if len(values) == 0 {
					t.Errorf("%s: a variable without a value at package level", path)
				}
				called := func(value ast.Expr) bool { _, ok := value.(*ast.CallExpr); return ok }
				if slices.ContainsFunc(values, called) && filepath.Base(filepath.Dir(path)) != "pack" {
					t.Errorf("%s: a value made by a call at package level", path)
				}
			}
		}
	})
}
