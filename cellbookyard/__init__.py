"""Cell book: worlds of cells under any rule."""
