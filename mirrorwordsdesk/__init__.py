"""What mirrors make: words of mirrors, and which of them are the same."""
