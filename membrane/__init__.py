"""Two compartments of one program, a revocable membrane between them, and replay of one side."""
