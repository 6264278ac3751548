"""Signs between one who sees and one who acts, each with ends of their own."""
