"""Long texts that short rules make."""
