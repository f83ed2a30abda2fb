"""Tables of the classes of finite fields."""
