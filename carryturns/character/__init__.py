"""Characters of finite fields."""
